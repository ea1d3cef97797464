import unittest

from needleblind.circuits import Circuit
from needleblind.codes import Code
from needleblind.errors import BadSecrets, TooMany
from needleblind.machines import Machine
from needleblind.plain import PlainRun, Secrets, plain_rows
from needleblind.processor import circuit_of, secrets_of, shown_in
from needleblind.programs import Program
from support import ANY_VALUES, raised, random_program, sources

SIGNS = ("+", "-", "&", "|", "^", "==", "<")


def code_of(*lines):
    return Code(Program("".join(f"{line}\n" for line in lines)))


class Case(unittest.TestCase):
    def form(self, code):
        """The circuit of the code, which has the form that it should have."""
        circuit = circuit_of(code)
        self.assertIsInstance(circuit, Circuit)
        self.assertEqual(circuit.ins(), [])
        self.assertEqual(len(circuit.secret_cells()), code.width * len(code.program.hidden()))
        self.assertEqual(len(circuit.opens()), 1 + code.width)
        self.assertLessEqual(len(circuit.cells()), 120)
        self.assertLessEqual(len(circuit.gates()), 4000)
        return circuit

    def like_machine(self, circuit, code, worths, beats=64):
        """The opened rows are those of the machine."""
        machine = Machine(code, worths)
        expected = []
        for _ in range(beats):
            shown = machine.step()
            bits = [0] * (1 + code.width)
            if shown is not None:
                bits = [1] + [shown // 2 ** at % 2 for at in range(code.width)]
            expected.append(tuple(bits))
        rows = plain_rows(circuit, secrets_of(code, worths), beats)
        self.assertEqual(rows, expected, (code.program.text(), worths))
        self.assertEqual(shown_in(rows), machine.outputs)

    def check(self, *lines, worths=None):
        code = code_of(*lines)
        circuit = self.form(code)
        size = 2 ** code.width
        many = len(code.program.hidden())
        rows = worths
        if rows is None:
            rows = [[(seed * 7 + at * 5 + seed // 3) % size for at in range(many)] for seed in range(9)]
            rows += [[size - 1] * many, [0] * many]
        for row in rows:
            self.like_machine(circuit, code, row)


class Circuits(Case):
    def test_each_sign_at_all_worths(self):
        for width in (1, 2, 3):
            size = 2 ** width
            pairs = [[a, b] for a in range(size) for b in range(size)]
            self.check(f"width {width}", "secret a b", *[f"show a {sign} b" for sign in SIGNS], worths=pairs)

    def test_each_sign_at_great_widths(self):
        for width in (4, 5, 6):
            size = 2 ** width
            pairs = [[a % size, b % size] for a in (0, 1, 7, 21, 31, 42, 62, 63) for b in (0, 1, 21, 32, 42, 63)]
            self.check(f"width {width}", "secret a b", *[f"show a {sign} b" for sign in SIGNS], worths=pairs)

    def test_each_sign_alone(self):
        for sign in SIGNS:
            for width in (1, 3):
                self.check(f"width {width}", "secret a b", f"show a {sign} b")
                self.check(f"width {width}", "secret a b", f"b = a {sign} b", "show b", "show a")

    def test_prefixes_and_numbers(self):
        for width in range(1, 7):
            worths = [[worth] for worth in range(2 ** width)]
            self.check(f"width {width}", "secret a", "show ~a", "show half a", "show twice a", worths=worths)
            for prefix in ("~", "half", "twice"):
                self.check(f"width {width}", "secret a", f"show {prefix} a", worths=worths)
            self.check(f"width {width}", *[f"show {number}" for number in range(0, 2 ** width, 5)])

    def test_without_hidden_words(self):
        for width in (1, 6):
            self.check(f"width {width}")
            self.check(f"width {width}", "stop")
            self.check(f"width {width}", "show 1")
            self.check(f"width {width}", "show 0", "show 1", "show 0")
            self.check(f"width {width}", "word a", "a = 1", "show a", "a = a + a", "show a", "show ~a")
            self.check(f"width {width}", "row m 8", "m[1] = 1", "show m[1] - m[0]")

    def test_programs_that_show_nothing(self):
        self.check("width 3", "secret a b")
        self.check("width 3", "secret a b", "a = b", "if a", "stop", "end")
        self.check("width 1", "word a")

    def test_rows_of_all_lengths_and_widths(self):
        for width in range(1, 7):
            for length in (2, 4, 8):
                self.check(f"width {width}", "secret a b", f"row m {length}", "m[a] = b", "m[b] = ~a", "show m[a]",
                           "show m[b]", "show m[a + 1]", "show m[0]")

    def test_several_rows(self):
        self.check("width 3", "row m 4", "secret a", "row n 2", "word c", "row o 4", "secret b",
                   "m[a] = b", "n[b] = a", "o[m[a]] = n[b]", "show o[b]", "show m[n[a]]", "show o[a]")
        self.check("width 4", "secret a b", "row m 2", "row n 2", "m[a] = n[b] + 3", "n[m[a]] = m[b] + a",
                   "show n[1]", "show n[0]", "show m[0]", "show m[1]")

    def test_temps(self):
        self.check("width 5", "secret a b c", "show (a + b) - (c - (a & (b | (c ^ a))))", "show a < (b + (c + 1))")

    def test_jumps_and_stops(self):
        self.check("width 2", "secret a b", "word c", "c = a - b", "if c == 0", "show 1", "else", "show 1", "end")
        self.check("width 3", "secret a b", "if a", "if b", "show 1", "stop", "else", "show 2", "end", "show 3",
                   "else", "stop", "end", "show 4")
        self.check("width 3", "secret a", "if a", "end", "show a", "if a", "else", "end", "show ~a")
        self.check("width 3", "stop", "show 1")

    def test_loops(self):
        self.check("width 3", "secret a b", "while a", "a = a - 1", "b = b + a", "show b", "end", "show 7")
        self.check("width 4", "secret a", "while 1", "show a", "a = a + 3", "end")
        self.check("width 2", "secret a", "while 1", "end")
        self.check("width 3", "secret a b", "while a < b", "while b & 1", "b = half b", "show b", "end",
                   "a = a + 1", "end", "show a")

    def test_one_and_many_hidden_words(self):
        self.check("width 1", "secret a", "show a")
        self.check("width 6", "secret a", "show a")
        names = "abcdefghijklmnop"
        self.check("width 6", f"secret {' '.join(names)}", *[f"show {name}" for name in names])
        self.check("width 2", "word z", "secret b", "row m 2", "word y", "secret a", "show a - b", "show m[0]")

    def test_random_programs(self):
        done = 0
        for source in sources(160):
            program = Program(random_program(source, source.randint(1, 6), deeds=source.randint(1, 6)))
            try:
                code = Code(program)
            except TooMany:
                continue
            circuit = self.form(code)
            done += 1
            for _ in range(3):
                self.like_machine(circuit, code, [source.randrange(2 ** code.width) for _ in program.hidden()])
        self.assertGreater(done, 100)

    def test_greatest_codes(self):
        mixed = ("width 6", "secret a b c d e f", "row m 8", "word g", "m[a + b] = c - d", "while m[a] < b",
                 "if (a ^ b) == (c | d)", "show m[~c] & e", "else", "m[half d] = twice e", "end", "show g", "stop", "end")
        code = code_of(*mixed)
        self.assertEqual((len(code), len(code.memory())), (40, 16))
        self.check(*mixed)
        # 40 instructions that are all unlike, with all words and as many jumps as may be.
        self.check("width 6", "secret a b c d e f g h i j k l m n o p",
                   *[f"{left} = {left} {sign} {right}" for left, sign, right in zip("abcdefghijklm", "+-&|^<" * 3,
                                                                                    "ponmlkjihgfed")])
        jumps = ["width 6", "secret a b c d e f g h i j k l m n o p"]
        for name in "abcdefghijklm":
            jumps += [f"while {name}", "end"]
        self.check(*jumps)
        rows = ["width 6", "row m 8", "row n 4", "secret a b c"]
        rows += [f"show {row}[{name}]" for row, name in zip("mnmnmnmn", "abcabcab")] + ["m[a] = b"]
        self.check(*rows)
        for names in ("row m 2\nrow n 2\nrow o 2\nrow p 2\nrow q 2\nrow r 2\nrow s 2", "row m 8\nrow n 4\nrow o 2"):
            rows = [name for name in "mnopqrs" if f"row {name}" in names]
            self.check("width 6", *names.split("\n"), "secret a", *[f"{name}[{at}] = a" for at, name in enumerate(rows)][:4],
                       *[f"show {name}[a]" for name in rows[:3]])

    def test_what_is_passed_stays(self):
        code = code_of("width 2", "secret a", "show a")
        kept = code.rows(), code.memory(), code.program.text()
        self.assertTrue(circuit_of(code) == circuit_of(code=code))
        self.assertEqual((code.rows(), code.memory(), code.program.text()), kept)


class Asking(Case):
    def test_secrets(self):
        code = code_of("width 3", "secret a", "word z", "secret b", "show a")
        secrets = secrets_of(code, [6, 1])
        self.assertIsInstance(secrets, Secrets)
        self.assertEqual((secrets.first(), secrets.later()), ((0, 1, 1, 1, 0, 0), ()))
        self.assertTrue(secrets == secrets_of(code=code, worths=(6, 1)))
        worths = [6, 1]
        secrets_of(code, worths)
        self.assertEqual(worths, [6, 1])
        self.assertEqual(secrets_of(code_of("width 6"), []), Secrets([]))
        run = PlainRun(circuit_of(code), secrets)
        run.step()
        self.assertEqual([run.bit(wire) for wire in circuit_of(code).secret_cells()], [0, 1, 1, 1, 0, 0])

    def test_wrong_secrets(self):
        code = code_of("width 3", "secret a b")
        for worths in ANY_VALUES + [[1], [1, 2, 3], [8, 0], [0, 8], [-1, 0], [True, 0], "12", [1, None], code]:
            fits = type(worths) in (list, tuple) and len(worths) == 2 and all(
                type(item) is int and 0 <= item < 8 for item in worths)
            if not fits:
                self.assertEqual(raised(self, BadSecrets, secrets_of, code, worths).what, "first")

    def test_shown_in(self):
        self.assertEqual(shown_in([]), [])
        self.assertEqual(shown_in([(0, 0, 0), (1, 0, 1), (1, 0, 0), (0, 1, 1), (1, 1, 1)]), [(1, 2), (2, 0), (4, 3)])
        self.assertEqual(shown_in([[1, 1], [0, 1]]), [(0, 1)])
        self.assertEqual(shown_in(((1, 0, 1, 1, 0, 1, 1), (0,) * 7)), [(0, 54)])
        self.assertEqual(shown_in(rows=[(1,), (0,)]), [(0, 0)])
        told = shown_in([(1, 1)])
        self.assertEqual([type(told), type(told[0])], [list, tuple])
        rows = [(1, 1), [0, 0]]
        shown_in(rows).append(1)
        self.assertEqual(rows, [(1, 1), [0, 0]])


if __name__ == "__main__":
    unittest.main()
