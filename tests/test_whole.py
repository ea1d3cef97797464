"""The worked calls and examples of the document, and what it promises over the whole program."""

import inspect
import itertools
import os
import unittest

from needleblind import errors
from needleblind.books import Book
from needleblind.circuits import Circuit
from needleblind.codes import Code
from needleblind.cones import cone
from needleblind.day import day
from needleblind.house import ring_piece
from needleblind.judging import bad_items, holds, judge_piece
from needleblind.machines import Machine
from needleblind.odds import is_unlike, odds, unlike
from needleblind.pieces import Piece
from needleblind.plain import PlainRun, Secrets
from needleblind.processor import circuit_of
from needleblind.programs import Program
from needleblind.rules import Fixed, Rule
from needleblind.runs import Run
from needleblind.tapes import Tape, bits_needed
from needleblind.tidy import tidied
from needleblind.twins import alike, twin
from support import ANY_VALUES, raised

HERE = os.path.dirname(os.path.abspath(__file__))
JUMP = "width 2\nsecret a b\nword c\nc = a - b\nif c == 0\nshow 1\nelse\nshow 1\nend\n"
PRODUCT = "secret a from a\nsecret b from b\nc = a and b\n"
CHAIN = ("piece refresh 4\ncoin r01\ncoin r12\ncoin r23\ns01 = a0 xor r01\ns10 = a1 xor r01\ns12 = s10 xor r12\n"
         "s21 = a2 xor r12\ns23 = s21 xor r23\ns32 = a3 xor r23\nout s01 s12 s23 s32\n")


def worked_calls():
    """The pairs (rows to be done, what the last one gives) of the worked calls."""
    with open(os.path.join(HERE, "worked_calls.txt"), encoding="utf-8") as file:
        blocks = file.read().split("\n\n")
    for block in blocks:
        lines = block.strip().split("\n")
        yield [line[4:] for line in lines if line.startswith(">>> ")], lines[-1]


def outcome(rows):
    """What the last row gives, written as the document writes it."""
    names = {}
    try:
        for row in rows[:-1]:
            exec(row, names)
        return repr(eval(rows[-1], names))
    except (errors.CoverError, errors.Missing, errors.Stopped) as error:
        values = ", ".join(f"{name}={value!r}" for name, value in vars(error).items())
        return f"raises {type(error).__name__}({values})"


class WorkedCalls(unittest.TestCase):
    def test_each_by_itself(self):
        calls = list(worked_calls())
        self.assertEqual(len(calls), 22)
        for rows, expected in calls:
            self.assertEqual(outcome(rows), expected, rows)


class Examples(unittest.TestCase):
    def test_1_and_2_one_product_and_its_twin(self):
        circuit, rule = Circuit(PRODUCT), Fixed([["prod c 0 1"]])
        tape = Tape.read("101011110100")
        run = Run(circuit, Secrets([1, 1]), tape, rule=rule)
        run.go(1)
        self.assertEqual([run.parts(wire) for wire in "abc"], [(1, 0, 1, 1), (0, 1, 1, 1), (0, 1, 1, 1)])
        self.assertEqual([run.worth(f"coin c {i} {j}") for i, j in itertools.combinations(range(4), 2)],
                         [1, 1, 0, 1, 0, 0])
        told = {"half c 0 1": 0, "back c 1 0": 0, "half c 0 3": 1, "back c 3 0": 1, "half c 1 2": 1, "back c 2 1": 0}
        self.assertEqual({look: run.worth(look) for look in told}, told)
        turning = twin(circuit, Secrets([1, 1]), Secrets([0, 1]), tape, rule=rule, beats=1)
        self.assertEqual((turning.ks, turning.tape.text()), ((2,), "100011110101"))
        run = Run(circuit, Secrets([0, 1]), turning.tape, rule=rule)
        run.go(1)
        self.assertEqual((run.parts("a"), run.parts("c"), run.readings), ((1, 0, 0, 1), (0, 1, 0, 1), [(1,)]))

    def test_3_two_parts_are_too_few(self):
        named = {"rule": Fixed([["prod c 0 1"]]), "beats": 1, "parts": 2}
        circuit, zero, one = Circuit("secret a from a\nc = a and a\n"), Secrets([0]), Secrets([1])
        self.assertEqual([dict(odds(circuit, secrets, **named)).get(((1,),), 0) for secrets in (zero, one)], [2, 0])
        self.assertEqual(sum(many for _, many in odds(circuit, one, **named)), 4)
        paper = unlike(circuit, zero, one, **named)
        self.assertIs(is_unlike(circuit, zero, one, paper, **named), True)

    def test_4_a_cell_that_holds_itself(self):
        circuit, rule, tape = Circuit("secret a from a\n"), Fixed([["part a 1"], ["turn a 0 2"]]), Tape.read("010110100")
        turning = twin(circuit, Secrets([1]), Secrets([0]), tape, rule=rule, beats=2)
        self.assertEqual((turning.ks, turning.tape.text()), ((2, 1), "011110000"))
        for bit, used, parts in ((1, tape, [(0, 1, 0, 0)] * 2), (0, turning.tape, [(0, 1, 1, 0), (0, 0, 0, 0)])):
            run = Run(circuit, Secrets([bit]), used, rule=rule)
            self.assertEqual([(run.step(), run.parts("a")) for _ in range(2)], [((1,), row) for row in parts])
        # Without refreshes, four looks read all parts.
        rule = Fixed([[f"part a {i}"] for i in range(4)])
        for coins in itertools.product((0, 1), repeat=3):
            run = Run(circuit, Secrets([1]), Tape(coins), rule=rule, parts=4, refresh=False)
            run.go(4)
            self.assertEqual(tuple(bit for reading in run.readings for bit in reading), run.parts("a"))
        self.assertIsNotNone(unlike(circuit, Secrets([0]), Secrets([1]), rule=rule, beats=4, parts=4, refresh=False))
        self.assertIsNone(unlike(circuit, Secrets([0]), Secrets([1]), rule=rule, beats=2, parts=4))

    def test_5_the_ring_and_the_chain(self):
        self.assertTrue(judge_piece(ring_piece(4)).is_taken())
        chain = judge_piece(Piece(CHAIN))
        self.assertFalse(chain.is_taken())
        self.assertEqual(bad_items(Piece(CHAIN), ("r12",)),
                         ((0, 2), (0, 3), (1, 2), (1, 3), (2, 0), (2, 1), (3, 0), (3, 1)))
        self.assertEqual(chain.paper()[1:3], (("r12",), (0, 1)))
        self.assertTrue(holds(Piece(CHAIN), chain.paper()))

    def test_6_a_jump_that_hangs_on_secrets(self):
        code = Code(Program(JUMP))
        circuit = tidied(circuit_of(code))
        self.assertEqual(len(code), 14)
        for pair in itertools.product(range(4), repeat=2):
            machine = Machine(code, list(pair))
            machine.go(8)
            self.assertEqual(machine.place, 8 if pair[0] == pair[1] else 11)
            machine.go(10)
            self.assertEqual(machine.outputs, [(9, 1)])
        tape = Tape([at % 5 % 2 for at in range(bits_needed(circuit, 10))])
        told = day(JUMP, [1, 1], [2, 0], tape, rule=Fixed([["part i0 0"]] * 10), beats=10)
        self.assertEqual((told.shown, told.book), ([(9, 1)], told.other_book))


class Whole(unittest.TestCase):
    def made(self):
        """An object of each class that has an ==, made twice."""
        return [[Program(JUMP), Code(Program(JUMP)), Circuit(""), Secrets([]), Piece(CHAIN), Tape([]), Book("book 1\n")]
                for _ in range(2)]

    def test_no_class_equals_another(self):
        first, second = self.made()
        more = ANY_VALUES + [Rule(), Machine(Code(Program(JUMP)), [0, 0]), PlainRun(Circuit(""), Secrets([])),
                             Run(Circuit(""), Secrets([]), Tape([]), rule=Rule()), judge_piece(ring_piece(4)),
                             twin(Circuit(""), Secrets([]), Secrets([]), Tape([]), rule=Rule(), beats=0)]
        for at, one in enumerate(first):
            self.assertIs("__eq__" in vars(type(one)), True)
            for place, other in enumerate(second):
                self.assertIs(one == other, at == place)
                self.assertIs(one != other, at != place)
            for value in more + [str(one), repr(one)]:
                self.assertIs(one == value, False)
                self.assertIs(value == one, False)

    def test_objects_that_are_like_others_but_for_their_class(self):
        # A tape and a circuit with the same text, a program and its code.
        self.assertFalse(Tape([]) == Circuit(""))
        self.assertFalse(Program(JUMP) == Code(Program(JUMP)))
        self.assertFalse(Code(Program(JUMP)) == Program(JUMP))

    def test_keyword_only_parameters(self):
        circuit, secrets, tape, rule = Circuit(""), Secrets([]), Tape([]), Rule()
        good = [(twin, (circuit, secrets, secrets, tape), {"rule": rule, "beats": 0}),
                (alike, (circuit, secrets, secrets, tape, tape), {"rule": rule, "beats": 0}),
                (odds, (circuit, secrets), {"rule": rule, "beats": 0}),
                (unlike, (circuit, secrets, secrets), {"rule": rule, "beats": 0}),
                (is_unlike, (circuit, secrets, secrets, None), {"rule": rule, "beats": 0}),
                (Run, (circuit, secrets, tape), {"rule": rule}),
                (cone, (Circuit("in x\n"), "part x 0", 0), {"parts": 4})]
        for call, values, named in good:
            call(*values, **named)
            names = [name for name, parameter in inspect.signature(call).parameters.items()
                     if parameter.kind != inspect.Parameter.KEYWORD_ONLY]
            call(**dict(zip(names, values)), **named)
            with self.assertRaises(TypeError):
                call(*values, *named.values())
            for name in named:
                if name in ("rule", "beats"):
                    with self.assertRaises(TypeError):
                        call(*values, **{key: value for key, value in named.items() if key != name})

    def test_equal_calls_give_equal_results(self):
        circuit, secrets = Circuit(PRODUCT), [Secrets([1, 1]), Secrets([0, 1])]
        tape, rule = Tape.read("101011110100"), Fixed([["prod c 0 1"]])
        found = [twin(circuit, *secrets, tape, rule=rule, beats=1) for _ in range(3)]
        self.assertEqual(len({(told.tape.text(), told.ks, told.turned) for told in found}), 1)
        self.assertEqual(circuit_of(Code(Program(JUMP))), circuit_of(Code(Program(JUMP))))

    def test_errors_that_are_raised_are_of_the_package(self):
        self.assertEqual(raised(self, errors.Parted, twin, Circuit("secret a from a\nopen a\n"), Secrets([1]), Secrets([0]),
                                Tape.read("010"), rule=Fixed([]), beats=1).at, 0)
        for error in (errors.TapeEnds, errors.Parted, errors.NotTaken):
            self.assertTrue(issubclass(error, RuntimeError))


if __name__ == "__main__":
    unittest.main()
