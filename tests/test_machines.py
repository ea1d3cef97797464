import unittest

from needleblind.codes import Code
from needleblind.errors import BadNumber, BadSecrets, BadStanding, NoBit, NoWord, TooMany
from needleblind.machines import Machine, machine_at
from needleblind.programs import Program
from needleblind.walks import walk
from support import ANY_VALUES, raised, random_program, sources

HEAD = "width 3\nsecret a b\nword c\nrow m 4\nrow n 2\n"


def code_of(*lines, head=HEAD):
    return Code(Program(head + "".join(f"{line}\n" for line in lines)))


def some_machine():
    """A machine with shown numbers, at a loop that does not end."""
    machine = Machine(code_of("c = 5", "m[a] = b + 1", "while a", "show c", "c = c - b", "end"), [1, 2])
    machine.go(40)
    return machine


class Running(unittest.TestCase):
    def test_worked_call(self):
        program = Program("width 2\nsecret a b\nword c\nc = a - b\nif c == 0\nshow 1\nelse\nshow 1\nend\n")
        machine = Machine(Code(program), [1, 2])
        machine.go(12)
        self.assertEqual([machine.outputs, machine.place], [[(9, 1)], 13])

    def test_the_sixth_example(self):
        code = Code(Program("width 2\nsecret a b\nword c\nc = a - b\nif c == 0\nshow 1\nelse\nshow 1\nend\n"))
        places = {}
        for a in range(4):
            for b in range(4):
                machine = Machine(code, (a, b))
                machine.go(8)
                places[a, b] = machine.place
                machine.go(30)
                self.assertEqual(machine.outputs, [(9, 1)])
        self.assertEqual({places[pair] for pair in places if pair[0] == pair[1]}, {8})
        self.assertEqual({places[pair] for pair in places if pair[0] != pair[1]}, {11})

    def test_each_instruction(self):
        machine = Machine(code_of("c = a - 3", "m[c] = ~b", "n[m[1]] = half c", "show twice n[1] ^ m[b]", "stop"), [5, 1])
        standings = []
        while machine.beat < 40:
            standings.append(machine.standing()[1:4] + (machine.standing()[4],))
            machine.step()
        words = (5, 1, 0, 0, 0, 0, 0, 0, 0, 0)
        self.assertEqual(standings[0], (0, 0, 0, words))
        self.assertEqual(standings[1], (1, 3, 0, words))
        self.assertEqual(standings[2], (2, 3, 0, words[:9] + (3,)))
        self.assertEqual(standings[4], (4, 2, 0, words[:9] + (3,)))
        self.assertEqual(standings[5][3], (5, 1, 2, 0, 0, 0, 0, 0, 0, 3))
        self.assertEqual(standings[9][:3], (9, 2, 0))
        self.assertEqual(standings[10][:3], (10, 2, 5))
        self.assertEqual(standings[12][3], (5, 1, 2, 0, 0, 6, 0, 0, 0, 6))
        self.assertEqual(machine.word("n", 0), 1)
        self.assertEqual(machine.word("n", 1), 0)
        self.assertEqual([number for _, number in machine.outputs], [0])

    def test_greatest_worths_wrap(self):
        for width in range(1, 7):
            size = 2 ** width
            code = Code(Program(f"width {width}\nsecret a b\nshow a + b\nshow a - b\nshow ~a\nshow half a\n"
                                "show twice a\nshow a < b\nshow a == b\nshow a & b\nshow a | b\nshow a ^ b\n"))
            for a in range(size):
                for b in {0, 1, size // 2, size - 1, a}:
                    machine = Machine(code, [a, b])
                    machine.go(60)
                    self.assertEqual([number for _, number in machine.outputs], [
                        (a + b) % size, (a - b) % size, size - 1 - a, a // 2, 2 * a % size, int(a < b), int(a == b),
                        a & b, a | b, a ^ b])

    def test_beside_the_walk(self):
        checked = 0
        for source in sources(400):
            program = Program(random_program(source, source.randint(1, 6), deeds=source.randint(1, 4)))
            try:
                code = Code(program)
            except TooMany:
                continue
            worths = [source.randrange(2 ** program.width) for _ in program.hidden()]
            ended = walk(program, worths, most=1000)
            machine = Machine(code, worths)
            shown = [machine.step() for _ in range(1000)]
            self.assertEqual(machine.beat, 1000)
            self.assertEqual(machine.outputs, [(beat, number) for beat, number in enumerate(shown) if number is not None])
            numbers = tuple(number for _, number in machine.outputs)
            if not ended.ended:
                self.assertEqual(numbers, ended.shown[:len(numbers)], program.text())
                continue
            if code.rows()[machine.place] != ("stop",):
                continue
            checked += 1
            self.assertEqual(numbers, ended.shown, program.text())
            for name, at in code.memory():
                if not (name.startswith("t") and name[1:].isdigit()):
                    self.assertEqual(machine.word(name, at), ended.word(name, at))
        self.assertGreater(checked, 100)

    def test_beats_of_outputs(self):
        machine = Machine(code_of("show a", "show b", "while 1", "show c", "end"), [4, 2])
        told = [machine.step() for _ in range(13)]
        self.assertEqual(told, [None, 4, None, 2, None, None, None, 0, None, None, None, None, 0])
        self.assertEqual(machine.outputs, [(1, 4), (3, 2), (7, 0), (12, 0)])

    def test_a_stop_stays(self):
        machine = Machine(code_of("show a", "stop", "show b"), [4, 2])
        machine.go(2)
        for beat in range(2, 50):
            self.assertEqual((machine.beat, machine.place, machine.outputs), (beat, 2, [(1, 4)]))
            self.assertIsNone(machine.step())
        machine.go(1000)
        self.assertEqual((machine.beat, machine.place), (1050, 2))
        empty = Machine(Code(Program("width 1\n")), [])
        empty.go(3)
        self.assertEqual(empty.standing(), (3, 0, 0, 0, (), ()))

    def test_go(self):
        machine = some_machine()
        before = machine.standing()
        for beats in ANY_VALUES + [1001, -1, 2.0]:
            if not (type(beats) is int and 0 <= beats <= 1000):
                self.assertIs(raised(self, BadNumber, machine.go, beats).value, beats)
                self.assertEqual(machine.standing(), before)
        self.assertIsNone(machine.go(0))
        self.assertEqual(machine.standing(), before)
        other = some_machine()
        for _ in range(1000):
            other.step()
        self.assertIsNone(machine.go(beats=1000))
        self.assertEqual(machine.standing(), other.standing())
        self.assertEqual(machine.beat, 1040)

    def test_secrets(self):
        code = code_of("show a")
        for worths in ANY_VALUES + [[1], [1, 2, 3], [8, 0], [0, 8], [-1, 0], [True, 0], "12", [1, None], code]:
            fits = type(worths) in (list, tuple) and len(worths) == 2 and all(
                type(item) is int and 0 <= item < 8 for item in worths)
            if fits:
                self.assertEqual(Machine(code, worths).word("b"), worths[1])
            else:
                self.assertEqual(raised(self, BadSecrets, Machine, code, worths).what, "first")
        worths = [7, 3]
        machine = Machine(code=code, worths=worths)
        worths[0] = 0
        self.assertEqual(machine.word("a"), 7)
        machine.go(5)
        self.assertEqual(worths, [0, 3])

    def test_hidden_words_that_do_not_stand_first(self):
        machine = Machine(code_of("show a", head="width 3\nword z\nrow m 2\nsecret b\nword y\nsecret a\n"), [5, 6])
        self.assertEqual(machine.standing(), (0, 0, 0, 0, (0, 5, 0, 6, 0, 0), ()))
        self.assertEqual([machine.word(name) for name in ("a", "b", "z", "y")], [6, 5, 0, 0])


class Asking(unittest.TestCase):
    def test_word(self):
        machine = some_machine()
        code = code_of("c = 5", "m[a] = b + 1", "while a", "show c", "c = c - b", "end")
        for address, (name, at) in enumerate(code.memory()):
            self.assertEqual(machine.word(name, at), machine.standing()[4][address])
            self.assertEqual(machine.word(name=name, at=at), machine.standing()[4][address])
        self.assertEqual([machine.word("m", at) for at in range(4)], [0, 3, 0, 0])
        self.assertEqual(machine.word("t0"), 3)
        self.assertEqual(machine.word("n"), machine.word("n", 0))
        self.assertEqual(machine_at(code, (0, 0, 0, 0, tuple(range(8)) + (7, 6), ())).word("m"), 3)
        for value in ANY_VALUES:
            self.assertEqual(machine.word("b", value), 2)
            self.assertEqual(machine.word("t0", value), 3)
            if not (type(value) is int and 0 <= value < 4):
                self.assertIs(raised(self, NoBit, machine.word, "m", value).at, value)
            if not isinstance(value, str) or value not in ("a",):
                self.assertIs(raised(self, NoWord, machine.word, value).name, value)
                self.assertIs(raised(self, NoWord, machine.word, value, 9).name, value)
        for name in ("t1", "t00", "q", "m[1]", machine):
            self.assertIs(raised(self, NoWord, machine.word, name).name, name)
        self.assertEqual(raised(self, NoBit, machine.word, "n", 2).at, 2)
        self.assertEqual(raised(self, NoBit, machine.word, "m", 4).at, 4)

    def test_properties(self):
        machine = some_machine()
        beat, place, a, p, words, outputs = machine.standing()
        self.assertEqual((machine.beat, machine.place, machine.outputs), (beat, place, list(outputs)))
        self.assertEqual((type(words), type(outputs), type(machine.outputs)), (tuple, tuple, list))
        self.assertEqual({type(pair) for pair in outputs}, {tuple})
        self.assertGreater(len(outputs), 2)
        machine.outputs.append((1, 1))
        machine.outputs.clear()
        self.assertEqual(machine.outputs, list(outputs))
        for name in ("beat", "place", "outputs"):
            self.assertIsInstance(vars(Machine)[name], property)

    def test_what_was_told_stays(self):
        machine = some_machine()
        outputs, standing = machine.outputs, machine.standing()
        kept = list(outputs), standing
        machine.go(100)
        self.assertEqual((outputs, standing), kept)

    def test_branch(self):
        for beats in (0, 1, 7, 40):
            machine = Machine(code_of("c = 5", "m[a] = b + 1", "while a", "show c", "m[0] = c", "c = c - b", "end"), [1, 2])
            machine.go(beats)
            other = machine.branch()
            self.assertIsInstance(other, Machine)
            start = machine.standing()
            self.assertEqual(other.standing(), start)
            other.go(50)
            self.assertEqual(machine.standing(), start)
            machine.go(25)
            machine.go(25)
            self.assertEqual(machine.standing(), other.standing())
            third = other.branch()
            other.step()
            self.assertEqual(third.standing(), machine.standing())

    def test_two_machines_of_one_code(self):
        code = code_of("c = a", "while 1", "m[c] = b", "c = c + 1", "show m[b]", "end")
        one, other = Machine(code, [1, 2]), Machine(code, [5, 7])
        alone = Machine(code, [5, 7])
        alone.go(100)
        for _ in range(100):
            one.step()
            other.step()
        self.assertEqual(other.standing(), alone.standing())
        self.assertNotEqual(one.standing(), other.standing())


class Standings(unittest.TestCase):
    def test_there_and_back(self):
        machine = some_machine()
        code = code_of("c = 5", "m[a] = b + 1", "while a", "show c", "c = c - b", "end")
        standing = machine.standing()
        other = machine_at(code=code, standing=standing)
        self.assertEqual(other.standing(), standing)
        other.go(40)
        self.assertEqual(machine.standing(), standing)
        machine.go(40)
        self.assertEqual(machine.standing(), other.standing())
        for name, at in code.memory():
            self.assertEqual(machine.word(name, at), other.word(name, at))

    def setUp(self):
        self.code = code_of("show m[a]", "show b")
        self.many = len(self.code.memory())
        self.good = (9, 3, 7, 8, (7,) * self.many, ((0, 7), (4, 0), (8, 3)))
        self.assertEqual(machine_at(self.code, self.good).standing(), self.good)

    def with_item(self, at, value):
        return self.good[:at] + (value,) + self.good[at + 1:]

    def wrong(self, at, standing):
        self.assertEqual(raised(self, BadStanding, machine_at, self.code, standing).at, at, standing)

    def fine(self, standing):
        self.assertEqual(machine_at(self.code, standing).standing(), standing)

    def test_other_values(self):
        for value in ANY_VALUES + [list(self.good), self.good[:5], self.good + (1,), self.code, some_machine(),
                                   (0,) * 5, (0,) * 7]:
            self.wrong(-1, value)
        self.wrong(0, (None,) * 6)
        self.wrong(4, (0,) * 6)

    def test_numbers(self):
        greatest = (None, len(self.code) - 1, 7, self.many - 1)
        for at in range(4):
            for value in [True, False, None, -1, "1", 1.0, (), [], (1,), [1], {}, self.code]:
                self.wrong(at, self.with_item(at, value))
            if at > 0:
                self.wrong(at, self.with_item(at, greatest[at] + 1))
                self.wrong(at, self.with_item(at, 999999999))
                self.fine(self.with_item(at, greatest[at]))
                self.fine(self.with_item(at, 0))
        self.fine(self.with_item(0, 999999999))
        self.fine((0, 0, 0, 0, (0,) * self.many, ()))

    def test_without_a_memory(self):
        code = Code(Program("width 1\nshow 1\n"))
        self.assertEqual(machine_at(code, (0, 0, 0, 0, (), ())).standing(), (0, 0, 0, 0, (), ()))
        self.assertEqual(raised(self, BadStanding, machine_at, code, (0, 0, 0, 1, (), ())).at, 3)
        self.assertEqual(raised(self, BadStanding, machine_at, code, (0, 0, 0, 0, (0,), ())).at, 4)

    def test_words(self):
        words = self.good[4]
        for value in (list(words), words[1:], words + (0,), (), None, 7, words[1:] + (8,), (-1,) + words[1:],
                      words[1:] + (True,), words[1:] + (None,), words[1:] + ((1,),), "7" * self.many,
                      {at: 7 for at in range(self.many)}):
            self.wrong(4, self.with_item(4, value))
        self.fine(self.with_item(4, tuple(at % 8 for at in range(self.many))))

    def test_outputs(self):
        for value in ([], [(0, 7)], ([0, 7],), ((0, 7), [4, 0]), ((0,),), ((0, 7, 7),), (0, 7), (None,), None, 0, "",
                      ((9, 7),), ((10, 7),), ((-1, 7),), ((0, 8),), ((0, -1),), ((True, 7),), ((0, True),),
                      ((0, None),), ((None, 0),), (("0", 7),), ((4, 7), (4, 7)), ((4, 7), (4, 0)), ((5, 0), (4, 0)),
                      ((0, 0), (2, 0), (1, 0)), ((0, 7), (4, 0), (9, 3)), {0: 7}, ((),), ("07",)):
            self.wrong(5, self.with_item(5, value))
        for value in ((), ((0, 0),), ((8, 7),), tuple((beat, beat % 8) for beat in range(9))):
            self.fine(self.with_item(5, value))
        self.wrong(5, (0, 0, 0, 0, self.good[4], ((0, 0),)))

    def test_the_first_wrong_item_counts(self):
        for first in range(6):
            for second in range(first, 6):
                standing = self.with_item(first, None)
                standing = standing[:second] + (None,) + standing[second + 1:]
                self.wrong(first, standing)
        self.wrong(0, (-1, 99, 99, 99, [], []))
        self.wrong(4, self.good[:4] + ([], []))

    def test_what_is_passed_stays(self):
        machine = machine_at(self.code, self.good)
        machine.go(10)
        self.assertEqual(self.good, (9, 3, 7, 8, (7,) * self.many, ((0, 7), (4, 0), (8, 3))))


if __name__ == "__main__":
    unittest.main()
