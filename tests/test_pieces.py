import itertools
import unittest

from needleblind.circuits import Circuit
from needleblind.errors import BadPiece, BadSecrets, TooMany
from needleblind.pieces import Piece
from support import ANY_VALUES, is_row, piece_bits, raised, random_bits, random_piece, sources

WORDS = "and cell coin from in not open out piece secret xor".split()
HEAD = "piece product 2\ncoin r\nc = a0 and b1\n"
# One line of each form, with the wire that it gives as {}.
GIVING = ("coin {}", "{} = a0 xor b0", "{} = a0 and b0", "{} = not a0")
READING = ("w = {} xor a0", "w = a0 xor {}", "w = {} and a0", "w = a0 and {}", "w = not {}", "out {} c", "out c {}",
           "w = {} and {}", "out {} {}")


class Case(unittest.TestCase):
    def fault(self, text, line, why):
        error = raised(self, BadPiece, Piece, text)
        self.assertEqual((error.line, error.why), (line, why), text)

    def line_fault(self, line, why):
        """The line has this fault, behind lines without one, and ahead of others with one."""
        self.fault(f"{HEAD}{line}\nout c c\n", 4, why)
        self.fault(f"{HEAD}d = not c\ncoin e\n{line}\n", 6, why)
        self.fault(f"{HEAD}{line}\nx x x\nout q\n", 4, why)
        self.fault(f"{HEAD}{line}\n{line}", 4, why)

    def refused(self, what, many, text):
        error = raised(self, TooMany, Piece, text)
        self.assertEqual((error.what, error.many), (what, many))


class Telling(Case):
    TEXT = ("piece product 3\nx = a0 and b2\ncoin z\ny = x xor z\nw = not y\nv = w and w\ncoin aa\nu = aa xor b1\n"
            "out v a0 v\n")

    def test_product(self):
        piece = Piece(self.TEXT)
        self.assertEqual((piece.kind, piece.n, type(piece.n)), ("product", 3, int))
        self.assertEqual((piece.text(), str(piece), repr(piece)), (self.TEXT, self.TEXT, "Piece(product 3, 2 coins)"))
        self.assertEqual(piece.parts(), ["a0", "a1", "a2", "b0", "b1", "b2"])
        self.assertEqual(piece.coins(), ["z", "aa"])
        self.assertEqual(piece.lines(), [
            ("x", "and", "a0", "b2"), ("z", "coin", None, None), ("y", "xor", "x", "z"), ("w", "not", "y", None),
            ("v", "and", "w", "w"), ("aa", "coin", None, None), ("u", "xor", "aa", "b1")])
        self.assertEqual({type(line) for line in piece.lines()}, {tuple})
        self.assertEqual(piece.outs(), ["v", "a0", "v"])
        self.assertEqual([type(told) for told in (piece.parts(), piece.coins(), piece.lines(), piece.outs())], [list] * 4)
        self.assertEqual(Piece(text=self.TEXT).text(), self.TEXT)

    def test_refresh(self):
        piece = Piece("piece refresh 2\ncoin b0\nc = a0 xor b0\nd = b0 xor a1\nout c d\n")
        self.assertEqual((piece.kind, piece.n), ("refresh", 2))
        self.assertEqual((piece.parts(), piece.coins(), piece.outs()), (["a0", "a1"], ["b0"], ["c", "d"]))
        self.assertEqual(repr(piece), "Piece(refresh 2, 1 coins)")

    def test_all_numbers_of_parts(self):
        for n in range(2, 11):
            names = [f"a{at}" for at in range(n)]
            piece = Piece(f"piece refresh {n}\nout {' '.join(reversed(names))}\n")
            self.assertEqual((piece.n, piece.parts(), piece.outs()), (n, names, names[::-1]))
            self.assertEqual((piece.coins(), piece.lines()), ([], []))
            self.assertEqual(repr(piece), f"Piece(refresh {n}, 0 coins)")
            text = f"piece product {n}\nout {' '.join(names)}\n"
            if n <= 7:
                self.assertEqual(Piece(text).parts(), names + [f"b{at}" for at in range(n)])
            else:
                self.refused("bits", 2 * n, text)

    def test_names_that_are_no_input_parts(self):
        for name in ("a2", "b0", "a00", "a10", "if", "t0", "coins", "product", "refresh", "abcdefgh"):
            piece = Piece(f"piece refresh 2\ncoin {name}\nout {name} a1\n")
            self.assertEqual(piece.outs(), [name, "a1"])
        self.assertEqual(Piece("piece product 2\ncoin b2\nc = b2 and a1\nout c c\n").coins(), ["b2"])

    def test_told_lists_are_new(self):
        piece = Piece(self.TEXT)
        kept = piece.parts(), piece.coins(), piece.lines(), piece.outs()
        for told in (piece.parts(), piece.coins(), piece.lines(), piece.outs()):
            told.append("new")
            told.pop(0)
        piece.worths([0] * 6, [0] * 2).clear()
        self.assertEqual((piece.parts(), piece.coins(), piece.lines(), piece.outs()), kept)
        self.assertEqual(len(piece.worths([0] * 6, [0] * 2)), 13)

    def test_equal(self):
        piece = Piece("piece refresh 2\nout a0 a1\n")
        self.assertTrue(piece == Piece("piece refresh 2\nout a0 a1\n"))
        self.assertFalse(piece != Piece("piece refresh 2\nout a0 a1\n"))
        for value in ANY_VALUES + [Piece("piece refresh 2\nout a1 a0\n"), "piece refresh 2\nout a0 a1\n", Circuit("")]:
            self.assertFalse(piece == value)
            self.assertTrue(piece != value)


class Worths(Case):
    def test_by_hand(self):
        piece = Piece("piece product 2\ncoin r\nc = a0 and b1\nd = c xor r\ne = not d\nout e a1\n")
        self.assertEqual(piece.worths([1, 0, 0, 1], [1]),
                         {"a0": 1, "a1": 0, "b0": 0, "b1": 1, "r": 1, "c": 1, "d": 0, "e": 1})

    def test_beside_the_text(self):
        for source in sources(100):
            piece = Piece(random_piece(source))
            for _ in range(5):
                parts = random_bits(source, len(piece.parts()))
                coins = random_bits(source, len(piece.coins()))
                told = piece.worths(parts=list(parts), coins=coins)
                self.assertEqual(told, piece_bits(piece.text(), parts, coins))
                self.assertEqual(set(map(type, told.values())), {int})
                self.assertEqual(piece.worths(parts, list(coins)), told)

    def test_any_value(self):
        piece = Piece("piece product 2\ncoin r\ncoin s\nout r s\n")
        values = ANY_VALUES + [[0, 1, 0, 1], (1, 1, 1, 1), [0, 1, 0, True], [0, 1, 0, 2], [0, 1, 0, 1, 0], "0101", "01",
                               [0, 1.0], piece]
        for value in values:
            if is_row(value, 4):
                self.assertEqual(piece.worths(value, [1, 1])["b1"], value[3])
            else:
                self.assertEqual(raised(self, BadSecrets, piece.worths, value, [1, 1]).what, "parts")
                self.assertEqual(raised(self, BadSecrets, piece.worths, value, None).what, "parts")
            if is_row(value, 2):
                self.assertEqual(piece.worths([1] * 4, value)["s"], value[1])
            else:
                self.assertEqual(raised(self, BadSecrets, piece.worths, [1] * 4, value).what, "coins")

    def test_what_is_passed_stays(self):
        piece = Piece("piece refresh 2\ncoin r\nout r a0\n")
        parts, coins = [1, 0], [1]
        told = piece.worths(parts, coins)
        self.assertEqual((parts, coins), ([1, 0], [1]))
        parts[0], coins[0] = 0, 0
        self.assertEqual(told, {"a0": 1, "a1": 0, "r": 1})


class Faults(Case):
    def test_any_value(self):
        for value in ANY_VALUES + [Circuit("")]:
            if not isinstance(value, str):
                self.fault(value, 0, "form")

    def test_first_lines(self):
        self.fault("", 1, "form")
        self.fault("\n", 1, "form")
        for line in ("piece", "piece product", "piece refresh 1", "piece refresh 0", "piece refresh 11",
                     "piece refresh 04", "piece refresh 4 4", "piece ring 4", "refresh 4", "product 2",
                     "piece  refresh 4", " piece refresh 4", "piece refresh 4 ", "piece refresh -4",
                     "piece refresh four", "piece Product 4", "pieces product 4", "coin r", "out a0 a1", "out", "w = not a0",
                     "piece product 100", "piece product a", "4 refresh piece", "piece refresh 010"):
            self.fault(f"{line}\nout a0 a1\n", 1, "form")
            self.fault(f"{line}\n{line}\n", 1, "form")
            self.fault(line, 1, "form")

    def test_unended_texts(self):
        self.fault("piece refresh 2", 1, "form")
        self.fault("piece refresh 2\nout a0 a1", 2, "form")
        self.fault("piece refresh 2\nout a0", 2, "form")
        self.fault("piece refresh 2\ncoin r", 2, "form")
        self.fault("piece refresh 2\ncoin xor", 2, "form")
        self.fault("piece refresh 2\n ", 2, "form")
        self.fault("piece refresh 2\ncoin xor\nout a0 a1", 2, "name")
        self.fault("piece refresh 2\nout a0 a1\nx", 3, "form")

    def test_without_an_out_line(self):
        self.fault("piece refresh 2\n", 2, "end")
        self.fault("piece refresh 2\ncoin r\n", 3, "end")
        self.fault(HEAD, 4, "end")
        self.fault("piece refresh 2\ncoin xor\n", 2, "name")
        # It comes ahead of the bounds.
        self.fault("piece refresh 10\n" + "".join(f"coin r{at}\n" for at in range(90)), 92, "end")

    def test_lines_behind_the_out_line(self):
        for line in ("coin s", "w = not c", "out c c", "out", "", " ", "out q", "coin xor", "coin r", "w = not q"):
            self.fault(f"{HEAD}out c c\n{line}\n", 5, "form")
            self.fault(f"{HEAD}out c c\n{line}\ncoin xor\n", 5, "form")
            self.fault(f"{HEAD}out c q\n{line}\n", 4, "unknown")

    def test_lines_without_a_form(self):
        for line in ("", " ", "a", "coin", "coin y z", "y = a0", "y = a0 or b0", "y = a0 xor", "y = not", "y = not a0 b0",
                     "y = a0 not", "y = a0 and b0 a1", "y == not a0", "y not a0", "y a0 xor b0", "= not a0", "=", "y =",
                     "in y", "open c", "secret y from c", "cell y 0 from c", "piece product 2", "piece refresh 2",
                     "y=not a0", "y = a0 XOR b0", "Out c c", "outs c c", "coins y", "y = a0 nand b0", "out c ", "out  c",
                     "out ", " out c c", "out c c ", "coin y ", " coin y", "coin  y", "y = not a0 ", "y  = not a0"):
            self.line_fault(line, "form")

    def test_names(self):
        for name in WORDS + ["A", "1", "0", "1a", "aB", "abcdefghi", "a_b", "=", "==", "~", "a=b", "a" * 100]:
            for form in GIVING:
                if (name, form[:2]) != ("out", "{}"):
                    self.line_fault(form.format(name), "name")
        self.line_fault("coin = not a0", "name")
        self.line_fault("piece = not a0", "name")
        self.line_fault("= = not a0", "name")
        self.line_fault("coin coin", "name")
        self.line_fault("coin =", "name")
        self.line_fault("in = a0 xor a0", "name")

    def test_twice(self):
        for name in ("a0", "a1", "b0", "b1", "r", "c"):
            for form in GIVING:
                self.line_fault(form.format(name), "twice")
        for form in GIVING:
            self.fault(f"{HEAD}{form.format('y')}\nd = not y\n{form.format('y')}\nout c c\n", 6, "twice")

    def test_unknown(self):
        for name in ("q", "w", "a2", "b2", "A", "0", "xor", "=", "abcdefghi", "out"):
            for form in READING:
                self.line_fault(form.format(*[name] * form.count("{}")), "unknown")
        self.fault("piece refresh 2\nc = not b0\nout c c\n", 2, "unknown")
        self.fault("piece refresh 2\nc = not c\nout c c\n", 2, "unknown")
        self.fault("piece refresh 2\nc = not d\ncoin d\nout c c\n", 2, "unknown")
        self.fault("piece refresh 2\nout c c\ncoin c\n", 2, "unknown")

    def test_outs(self):
        for line in ("out", "out c", "out c c c", "out a0 a1 b0 b1"):
            self.line_fault(line, "outs")
        for line in ("out q", "out q q q", "out = not a0", "out = a0 xor b0", "out = = =", "out out", "out c c q"):
            self.line_fault(line, "unknown")
        for n in range(2, 8):
            for many in (0, n - 1, n + 1):
                self.fault(f"piece product {n}\nout{' b1' * many}\n", 2, "outs")

    def test_several_faults_of_one_line(self):
        self.line_fault("xor = q and q", "name")
        self.line_fault("a0 = q and q", "twice")
        self.line_fault("a0 = q", "form")
        self.line_fault("coin = q", "form")
        self.line_fault("in = q and c", "name")
        self.line_fault("r = not q", "twice")


class Bounds(Case):
    def text(self, kind, n, coins=0, gates=0, out="out" + " a0"):
        lines = [f"piece {kind} {n}"] + [f"coin r{at}" for at in range(coins)] + [f"g{at} = not a0" for at in range(gates)]
        return "".join(f"{line}\n" for line in lines) + "out" + " a0" * n + "\n"

    def test_lines(self):
        self.assertEqual(len(Piece(self.text("refresh", 2, 0, 80)).lines()), 80)
        self.assertEqual(len(Piece(self.text("refresh", 4, 10, 70)).lines()), 80)
        self.refused("lines", 81, self.text("refresh", 2, 0, 81))
        self.refused("lines", 81, self.text("refresh", 4, 10, 71))
        self.refused("lines", 150, self.text("product", 3, 0, 150))

    def test_bits(self):
        for kind, n, coins in (("refresh", 2, 12), ("refresh", 4, 10), ("refresh", 10, 4), ("product", 2, 10),
                               ("product", 4, 6), ("product", 7, 0)):
            self.assertEqual(len(Piece(self.text(kind, n, coins)).coins()), coins)
            self.refused("bits", 15, self.text(kind, n, coins + 1))
            self.refused("bits", 20, self.text(kind, n, coins + 6))
        self.refused("bits", 16, self.text("product", 8))

    def test_both(self):
        self.refused("lines", 81, self.text("refresh", 4, 11, 70))
        self.refused("lines", 90, self.text("refresh", 10, 90))
        self.refused("bits", 15, self.text("refresh", 4, 11, 69))

    def test_faults_come_first(self):
        for coins, gates in ((0, 81), (13, 0), (13, 70)):
            text = self.text("refresh", 2, coins, gates)
            many = text.count("\n")
            head = text[:text.rindex("out")]
            self.fault(text + "coin q\n", many + 1, "form")
            self.fault(head + "coin a0\n", many, "twice")
            self.fault(head + "out a0\n", many, "outs")
            self.fault(head + "out q a0\n", many, "unknown")
            self.fault(head + "out a0 a0", many, "form")
            self.fault(head, many, "end")


class ReferenceItself(unittest.TestCase):
    def test_bits_of_pieces(self):
        text = "piece refresh 2\ncoin r\nc = a0 and r\nd = not c\ne = d xor a1\nout c e\n"
        for a0, a1, r in itertools.product((0, 1), repeat=3):
            self.assertEqual(piece_bits(text, (a0, a1), (r,)), {
                "a0": a0, "a1": a1, "r": r, "c": a0 * r, "d": 1 - a0 * r, "e": (1 - a0 * r + a1) % 2})


if __name__ == "__main__":
    unittest.main()
