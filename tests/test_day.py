import itertools
import random
import unittest

from needleblind.books import Book, book_of, replay
from needleblind.circuits import Circuit
from needleblind.codes import Code
from needleblind.day import Day, day
from needleblind.errors import BadLook, BadNumber, BadProgram, BadSecrets, Parted, TapeEnds, TooMany
from needleblind.looks import all_looks
from needleblind.machines import Machine
from needleblind.processor import circuit_of, secrets_of, shown_in
from needleblind.programs import Program
from needleblind.rules import Fixed, Rule
from needleblind.runs import Run
from needleblind.tapes import Tape, bits_needed
from needleblind.tidy import tidied
from needleblind.twins import Twin, twin
from support import ANY_VALUES, raised, random_bits

JUMP = "width 2\nsecret a b\nword c\nc = a - b\nif c == 0\nshow 1\nelse\nshow 1\nend\n"
SPOKEN = "width 2\nsecret a b\nrow m 2\nm[a] = b\nshow a & 1\nshow m[0]\n"


def made(text, t=1, beats=10, more=0):
    """The circuit of a text, a tape for so many beats, and a rule that looks by chance."""
    circuit = tidied(circuit_of(Code(Program(text))))
    tape = Tape(random_bits(random.Random(7), bits_needed(circuit, beats, parts=3 * t + 1) + more))
    looks = [list(all_looks(circuit, at, parts=3 * t + 1)) for at in (0, 1)]

    def rule(beat, readings, opened):
        source = random.Random(f"{beat} {readings} {opened}")
        return source.sample(looks[min(beat, 1)], source.randint(0, t))

    return circuit, tape, rule


class Days(unittest.TestCase):
    def check(self, text, one, other, t, beats, more=0):
        """A day beside the single calls."""
        circuit, tape, rule = made(text, t, beats, more)
        told = day(text, one, other, tape, t=t, rule=rule, beats=beats)
        self.assertIs(type(told), Day)
        self.assertEqual([type(item) for item in (told.program, told.code, told.circuit, told.shown, told.turning, told.book,
                                                  told.other_book)], [Program, Code, Circuit, list, Twin, Book, Book])
        self.assertEqual((told.program, told.code, told.circuit), (Program(text), Code(Program(text)), circuit))
        first, second = secrets_of(told.code, one), secrets_of(told.code, other)
        turning = twin(circuit, first, second, tape, t=t, rule=rule, beats=beats)
        self.assertEqual((told.turning.tape, told.turning.ks, told.turning.turned),
                         (turning.tape, turning.ks, turning.turned))
        run, twin_run = (Run(circuit, first, tape, t=t, rule=rule), Run(circuit, second, turning.tape, t=t, rule=rule))
        run.go(beats)
        twin_run.go(beats)
        self.assertEqual((told.book, told.other_book), (book_of(run), book_of(twin_run)))
        # Both books tell the same of all that was looked at and opened, for as many bits.
        self.assertEqual(told.book, told.other_book)
        self.assertEqual(told.shown, shown_in(run.opened))
        machine = Machine(told.code, one)
        machine.go(beats)
        self.assertEqual(told.shown, machine.outputs)
        return told

    def test_a_jump_that_hangs_on_secrets(self):
        for one, other in (([1, 2], [3, 3]), ([0, 0], [2, 1]), ([3, 1], [1, 3])):
            told = self.check(JUMP, one, other, 1, 12)
            self.assertEqual((told.shown, len(told.turning.ks), len(told.book)), ([(9, 1)], 12, 12))
            self.assertGreater(len(told.turning.turned), 0)

    def test_all_pairs_of_secrets_have_twins(self):
        circuit, tape, rule = made(JUMP, 1, 11)
        pairs = list(itertools.product(range(4), repeat=2))
        for one, other in zip(pairs, pairs[5:] + pairs[:5]):
            told = day(JUMP, list(one), other, tape, rule=rule, beats=11)
            self.assertEqual(told.shown, [(9, 1)])
            self.assertEqual(told.book, told.other_book)
        # The places part in beat 8: the if jumps with like secrets alone.
        places = []
        for one in ([1, 1], [1, 2]):
            machine = Machine(Code(Program(JUMP)), one)
            machine.go(8)
            places.append(machine.place)
        self.assertEqual(places, [8, 11])

    def test_more_looks(self):
        self.check(JUMP, [1, 2], [2, 2], 2, 5)
        self.check(JUMP, [1, 2], [2, 2], 3, 3, more=10)
        self.check(SPOKEN, [1, 2], [3, 2], 1, 16, more=1)

    def test_no_beats(self):
        told = self.check(JUMP, [1, 2], [2, 1], 1, 0)
        self.assertEqual((told.shown, told.turning.ks, told.book.text(), told.other_book.text()),
                         ([], (0,), "book 1\n", "book 1\n"))

    def test_by_name(self):
        circuit, tape, rule = made(JUMP, 1, 3)
        told = day(text=JUMP, one=(1, 2), other=(0, 0), tape=tape, t=1, rule=Fixed([["part a0 1"]]), beats=3)
        self.assertEqual(told.book.rows()[0][0], ("part a0 1",))
        self.assertEqual(day(JUMP, [1, 2], [0, 0], tape, rule=Fixed([["part a0 1"]]), beats=3).book, told.book)

    def test_books_may_be_replayed(self):
        circuit, tape, rule = made(JUMP, 1, 12)
        told = day(JUMP, [1, 2], [3, 3], tape, rule=rule, beats=12)
        for book, secrets, used in ((told.book, [1, 2], tape), (told.other_book, [3, 3], told.turning.tape)):
            self.assertIsNone(replay(book, told.circuit, secrets_of(told.code, secrets), used, rule=rule))

    def test_told_lists_are_new(self):
        circuit, tape, rule = made(JUMP, 1, 10)
        one, other = [1, 2], [3, 3]
        told = day(JUMP, one, other, tape, rule=rule, beats=10)
        told.shown.append((1, 1))
        self.assertEqual(day(JUMP, one, other, tape, rule=rule, beats=10).shown, [(9, 1)])
        self.assertEqual((one, other), ([1, 2], [3, 3]))


class Errors(unittest.TestCase):
    def setUp(self):
        _, tape, _ = made(SPOKEN, 1, 16)
        self.good = {"text": SPOKEN, "one": [1, 2], "other": [3, 2], "tape": tape, "t": 1, "rule": Rule(), "beats": 15}

    def day(self, **named):
        return day(**{**self.good, **named})

    def test_programs(self):
        self.assertEqual(vars(raised(self, BadProgram, self.day, text="width 2\nword c\nc = d\n")),
                         {"line": 3, "why": "unknown"})
        for value in ANY_VALUES:
            if not isinstance(value, str):
                self.assertEqual(raised(self, BadProgram, self.day, text=value).line, 0)
        self.assertEqual(vars(raised(self, TooMany, self.day, text="width 2\n" + "word a\n" * 60)),
                         {"what": "lines", "many": 61})
        self.assertEqual(vars(raised(self, TooMany, self.day, text="width 2\nrow a 8\nrow b 8\nword c\n")),
                         {"what": "words", "many": 17})
        error = raised(self, TooMany, self.day, text="width 2\nword a\n" + "show a\n" * 20)
        self.assertEqual(vars(error), {"what": "instructions", "many": 41})

    def test_secrets(self):
        for value in ANY_VALUES + [[0, 4], [0, 0, 0], (0,), [0, -1], [0, True], "00"]:
            for name in ("one", "other"):
                if not (isinstance(value, (list, tuple)) and len(value) == 2 and all(type(x) is int for x in value)
                        and all(0 <= x < 4 for x in value)):
                    self.assertEqual(raised(self, BadSecrets, self.day, **{name: value}).what, "first")

    def test_parted(self):
        # What is shown first has bit 0 of a, in the beat of the first show; later the items part.
        outputs = Machine(Code(Program(SPOKEN)), [1, 2])
        outputs.go(16)
        (first, _), (second, _) = outputs.outputs
        self.assertEqual(raised(self, Parted, self.day, other=[2, 2]).at, first)
        self.assertEqual(raised(self, Parted, self.day, one=[0, 1], other=[0, 2]).at, second)
        self.assertEqual(self.day(other=[2, 2], beats=first).shown, [])
        raised(self, Parted, self.day, other=[2, 2], beats=first + 1)

    def test_twins(self):
        for t in (0, 4, None, True):
            self.assertIs(raised(self, BadNumber, self.day, t=t).value, t)
        for beats in (-1, 65, None, True):
            self.assertIs(raised(self, BadNumber, self.day, beats=beats).value, beats)
        self.assertEqual(raised(self, TapeEnds, self.day, tape=Tape([])).at, 0)
        circuit = self.day().circuit
        self.assertEqual(raised(self, TapeEnds, self.day, tape=Tape([0] * (bits_needed(circuit, 9) - 1))).at, 8)
        self.assertIsNone(raised(self, BadLook, self.day, rule=Fixed([[], [None]])).look)
        self.assertEqual(raised(self, TooMany, self.day, rule=Fixed([["part a0 0", "part a0 1"]])).many, 2)

    def test_several_at_once(self):
        faults = [("text", "width 7\n", BadProgram), ("one", [4, 0], BadSecrets), ("other", None, BadSecrets),
                  ("t", 0, BadNumber), ("beats", 65, BadNumber), ("other", [2, 2], Parted), ("tape", Tape([]), TapeEnds),
                  ("rule", Fixed([[None]]), BadLook)]
        for many in range(1, 4):
            for chosen in itertools.combinations(faults, many):
                named = {}
                for name, value, _ in chosen:
                    named.setdefault(name, value)
                error = raised(self, chosen[0][2], self.day, **named)
                if chosen[0][2] is BadNumber:
                    self.assertEqual(error.value, chosen[0][1])


if __name__ == "__main__":
    unittest.main()
