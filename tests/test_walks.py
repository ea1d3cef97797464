import unittest

from needleblind.errors import BadNumber, BadSecrets, NoBit, NoWord
from needleblind.programs import Program
from needleblind.walks import Walk, check_secrets, walk
from support import ANY_VALUES, Plain, raised, random_program, sources

HEAD = "width 2\nsecret a b\nword c d\nrow m 4\nrow n 2\n"


def program_of(*lines, head=HEAD):
    return Program(head + "".join(f"{line}\n" for line in lines))


class Reference:
    """The walk of a program by recursion, to compare with."""

    def __init__(self, program, worths):
        self.words = dict.fromkeys(program.words(), 0)
        self.words.update(zip(program.hidden(), worths))
        self.rows = {name: [0] * length for name, length in program.rows()}
        self.width = program.width
        self.shown = []
        self.stopped = False

    def of(self, tree):
        return Plain(self.width, self.words, self.rows).of(tree)

    def steps(self, deeds):
        """Yields ahead of each deed or test that is counted, then does it."""
        for deed in deeds:
            if self.stopped:
                return
            yield True
            if deed[0] == "set":
                self.words[deed[1]] = self.of(deed[2])
            elif deed[0] == "put":
                index, number = self.of(deed[2]), self.of(deed[3])
                self.rows[deed[1]][index % len(self.rows[deed[1]])] = number
            elif deed[0] == "show":
                self.shown.append(self.of(deed[1]))
            elif deed[0] == "stop":
                self.stopped = True
            elif deed[0] == "if":
                yield from self.steps(deed[2] if self.of(deed[1]) else deed[3] or ())
            else:
                while self.of(deed[1]) and not self.stopped:
                    yield from self.steps(deed[2])
                    if self.stopped:
                        return
                    yield True

    def walked(self, deeds, most):
        """How many are counted, and whether nothing is left."""
        many = 0
        for _ in self.steps(deeds):
            if many == most:
                return many, False
            many += 1
        return many, True


class Walking(unittest.TestCase):
    def check(self, program, worths, most=None):
        found = walk(program, worths) if most is None else walk(program, worths, most=most)
        reference = Reference(program, worths)
        many, ended = reference.walked(program.deeds(), 200 if most is None else most)
        self.assertEqual((found.shown, found.many, found.ended), (tuple(reference.shown), many, ended), program.text())
        self.assertIs(type(found), Walk)
        self.assertIs(type(found.shown), tuple)
        self.assertIs(type(found.ended), bool)
        for name, number in reference.words.items():
            self.assertEqual(found.word(name), number)
        for name, row in reference.rows.items():
            self.assertEqual([found.word(name, at) for at in range(len(row))], row)
        return found

    def test_worked_call(self):
        program = Program("width 2\nsecret a b\nword c\nc = a - b\nif c == 0\nshow 1\nelse\nshow 1\nend\n")
        ended = walk(program, [1, 2])
        self.assertEqual([ended.shown, ended.many, ended.ended, ended.word("c")], [(1,), 3, True, 3])
        for a in range(4):
            for b in range(4):
                self.assertEqual(walk(program, (a, b)).shown, (1,))

    def test_deeds(self):
        found = walk(program_of("c = a + b", "m[c] = b", "show m[3]", "d = m[7 - 4]", head=HEAD.replace("2", "3", 1)),
                     [1, 2])
        self.assertEqual((found.shown, found.many, found.ended), ((2,), 4, True))
        self.assertEqual([found.word(name) for name in "abcd"], [1, 2, 3, 2])
        self.assertEqual([found.word("m", at) for at in range(4)], [0, 0, 0, 2])

    def test_what_is_counted(self):
        for lines, many in (
            ([], 0),
            (["stop"], 1),
            (["stop", "show 1", "show 2"], 1),
            (["c = 1", "show c"], 2),
            (["if a", "end"], 1),
            (["if a", "show 1", "end"], 2),
            (["if a", "show 1", "else", "show 1", "show 1", "end"], 2),
            (["if c", "show 1", "else", "show 1", "show 1", "end"], 3),
            (["if c", "show 1", "end"], 1),
            (["if c", "else", "end"], 1),
            (["while c", "end"], 1),
            (["while c", "show 1", "end"], 1),
            (["c = 3", "while c", "c = c - 1", "end"], 8),
            (["c = 3", "while c", "c = c - 1", "end", "show c"], 9),
            (["while a", "stop", "end", "show 1"], 2),
            (["if a", "while a", "if a", "stop", "end", "end", "end", "show 1"], 4),
            (["c = 2", "while c", "d = 2", "while d", "d = d - 1", "end", "c = c - 1", "end"], 18),
        ):
            found = self.check(program_of(*lines), [1, 1])
            self.assertEqual((found.many, found.ended), (many, True), lines)

    def test_most_with_and_without_something_left(self):
        for lines in ([], ["stop"], ["stop", "show 1"], ["show 1", "show 2"], ["if a", "end"], ["if c", "else", "end"],
                      ["if a", "show 1", "end"], ["if a", "show 1", "end", "show 2"], ["while c", "end"],
                      ["c = 2", "while c", "c = c - 1", "end"], ["c = 2", "while c", "c = c - 1", "end", "show 1"],
                      ["c = 1", "while c", "c = 0", "if a", "end", "end"], ["while a", "end"],
                      ["while a", "if a", "stop", "end", "end"], ["while a", "show a", "end"],
                      ["if a", "if a", "if a", "else", "show 1", "end", "else", "show 2", "end", "end"]):
            for most in range(14):
                self.check(program_of(*lines), [1, 0], most)

    def test_ended_where_most_has_just_been_counted(self):
        for lines, most, ended in (
            ([], 0, True),
            (["show 1"], 0, False),
            (["show 1"], 1, True),
            (["show 1", "show 1"], 1, False),
            (["stop", "show 1"], 1, True),
            (["stop", "show 1"], 0, False),
            (["if a", "end"], 1, True),
            (["if a", "show 1", "end"], 1, False),
            (["if c", "show 1", "end"], 1, True),
            (["if a", "else", "show 1", "end"], 1, True),
            (["while a", "end"], 1, False),
            (["while c", "show 1", "end"], 1, True),
            (["c = 1", "while c", "c = 0", "end"], 3, False),
            (["c = 1", "while c", "c = 0", "end"], 4, True),
        ):
            found = walk(program_of(*lines), [1, 1], most=most)
            self.assertEqual((found.many, found.ended), (most, ended), lines)

    def test_loops_that_do_not_end(self):
        program = program_of("while a", "c = c + 1", "end")
        for most in (0, 1, 2, 199, 200, 999, 1000):
            found = self.check(program, [1, 0], most)
            self.assertEqual((found.many, found.ended), (most, False))
            self.assertEqual(found.word("c"), most // 2 % 4)
        found = self.check(program, [1, 0])
        self.assertEqual((found.many, found.ended), (200, False))
        found = self.check(program, [0, 1])
        self.assertEqual((found.many, found.ended), (1, True))

    def test_a_put_that_reads_its_row(self):
        found = self.check(program_of("m[0] = 1", "m[1] = 3", "m[m[0]] = m[m[0]] - m[0]", "m[m[1]] = m[1]",
                                      "m[m[2]] = m[0] + m[2]"), [0, 0])
        self.assertEqual([found.word("m", at) for at in range(4)], [1, 2, 3, 0])
        found = self.check(program_of("n[0] = 1", "n[n[0]] = n[0] + 1", "n[n[1]] = n[0] + n[1]"), [0, 0])
        self.assertEqual([found.word("n", 0), found.word("n", 1)], [3, 2])

    def test_random_programs(self):
        for source in sources(150):
            program = Program(random_program(source, source.randint(1, 6)))
            for _ in range(3):
                worths = [source.randrange(2 ** program.width) for _ in program.hidden()]
                self.check(program, worths, source.choice((None, 0, 1, 5, 10, 1000)))

    def test_what_is_passed_stays(self):
        worths = [1, 2]
        program = program_of("a = 3", "m[1] = 2", "show a")
        text = program.text()
        self.assertEqual(walk(program, worths).word("a"), 3)
        self.assertEqual((worths, program.text()), ([1, 2], text))
        self.assertEqual(walk(program, tuple(worths)).word("b"), 2)
        self.assertEqual(walk(program=program, worths=worths, most=3).many, 3)


class WalkErrors(unittest.TestCase):
    def test_word(self):
        found = walk(program_of("c = 3", "m[1] = 2"), [1, 2])
        for at in ANY_VALUES:
            self.assertEqual(found.word("c", at), 3)
            self.assertEqual(found.word(name="b", at=at), 2)
            is_place = type(at) is int and 0 <= at < 4
            if is_place:
                self.assertEqual(found.word("m", at), 2 if at == 1 else 0)
            else:
                self.assertIs(raised(self, NoBit, found.word, "m", at).at, at)
        self.assertEqual(found.word("m"), 0)
        self.assertEqual(raised(self, NoBit, found.word, "m", 4).at, 4)
        self.assertEqual(raised(self, NoBit, found.word, "n", 2).at, 2)
        self.assertEqual(raised(self, NoBit, found.word, "m", -1).at, -1)
        self.assertIs(raised(self, NoBit, found.word, "m", True).at, True)
        for name in ANY_VALUES + ["t0", "q", "M", "m[1]", found]:
            if name not in ("a", "b", "c", "d", "m", "n"):
                self.assertIs(raised(self, NoWord, found.word, name).name, name)
                self.assertIs(raised(self, NoWord, found.word, name, 99).name, name)

    def test_secrets(self):
        program = program_of("show a")
        bad = [[1], [1, 2, 3], [1, 4], [4, 1], [-1, 0], [0, -1], [1, True], [False, 0], [1, None], [1, "1"], [1, [1]],
               (1,), (0, 4), "12", {0: 1, 1: 2}, [1, 64], program]
        for worths in ANY_VALUES + bad:
            fits = isinstance(worths, (list, tuple)) and len(worths) == 2 and all(
                type(item) is int and 0 <= item < 4 for item in worths)
            if fits:
                self.assertIsNone(check_secrets(program, worths))
                self.assertEqual(walk(program, worths).word("a"), worths[0])
            else:
                self.assertEqual(raised(self, BadSecrets, check_secrets, program, worths).what, "first")
                for most in (5, -1, None):
                    self.assertEqual(raised(self, BadSecrets, walk, program, worths, most=most).what, "first")

    def test_secrets_of_all_widths(self):
        for width in range(1, 7):
            program = Program(f"width {width}\nsecret a\n")
            check_secrets(program, [2 ** width - 1])
            self.assertEqual(walk(program, [2 ** width - 1]).word("a"), 2 ** width - 1)
            raised(self, BadSecrets, check_secrets, program, [2 ** width])
        self.assertIsNone(check_secrets(Program("width 1\n"), []))
        self.assertIsNone(check_secrets(program=Program("width 1\nword c\n"), worths=()))
        raised(self, BadSecrets, check_secrets, Program("width 1\nword c\n"), [0])

    def test_most(self):
        program = program_of("show a")
        for most in ANY_VALUES + [-1, 1001, 999999999, 1.0]:
            if type(most) is int and 0 <= most <= 1000:
                self.assertEqual(walk(program, [1, 1], most=most).many, min(most, 1))
            else:
                self.assertIs(raised(self, BadNumber, walk, program, [1, 1], most=most).value, most)
        self.assertEqual(walk(program, [1, 1], most=1000).many, 1)
        with self.assertRaises(TypeError):
            walk(program, [1, 1], 5)


if __name__ == "__main__":
    unittest.main()
