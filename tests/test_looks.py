import itertools
import random
import unittest

from covered import Case, Covering, taken
from needleblind.circuits import Circuit
from needleblind.errors import BadLook
from needleblind.looks import all_looks, is_look, look_count, look_form, look_numbers
from support import ANY_VALUES, raised, sources

# Every kind of line: cells that hold themselves and another one, an in, all gates, a wire with itself, open lines.
TEXT = ("secret a from a\ncell b 1 from p\nin x\np = a and x\nq = p xor b\nopen q\nr = not q\ns = r and r\n"
        "secret d from s\nopen a\n")
KINDS = ("turn", "row", "coin", "prod", "half", "back", "sum", "part")
BARRED = ("and", "cell", "coin", "from", "in", "not", "open", "out", "piece", "secret", "xor")


def covering(text, n, beats, refresh=True, laid=None):
    """The looks of the beats of any run of a circuit, reckoned from its text."""
    zeros = [0] * 20000
    return Covering(text, zeros[:9], [zeros[:9]] * beats, zeros, n, refresh, laid).go(beats)


def wrong_ones(look):
    """Strings that are nearly a look."""
    words = look.split(" ")
    found = [look + " ", " " + look, look + "\n", look.upper(), look.replace(" ", "  ", 1), look.replace(" ", "\t"),
             look + " 0", " ".join(words[:-1]), look[:-1] + "a", look + "0", " ".join([*words[:2], "00", *words[3:]]),
             " ".join(["kind", *words[1:]]), " ".join([words[0], "and", *words[2:]]), "look " + look,
             " ".join([words[0], "A", *words[2:]]), " ".join([words[0], "0a", *words[2:]]), "-".join(words)]
    return found


class Looks(unittest.TestCase):
    def agrees(self, text, at, n, refresh, pieces, expected):
        """All looks of a beat, how many there are, and that each of them is one."""
        circuit = Circuit(text)
        named = {"parts": n, "refresh": refresh, "pieces": pieces}
        told = list(all_looks(circuit, at, **named))
        self.assertEqual(told, expected)
        self.assertEqual(look_count(circuit, at, **named), len(expected))
        for look in told:
            self.assertIs(is_look(circuit, look, at, **named), True)

    def test_every_kind_of_line(self):
        for n, refresh in itertools.product(range(2, 11), (True, False)):
            run = covering(TEXT, n, 3, refresh)
            for at in range(3):
                self.agrees(TEXT, at, n, refresh, None, list(run.looks[at]))
                self.agrees(TEXT, at, n, refresh, {}, list(run.looks[at]))
            for at in (2, 3, 63, 64, 1000, 999999999):
                self.agrees(TEXT, at, n, refresh, None, list(run.looks[2]))

    def test_plainly_written(self):
        circuit = Circuit("in x\ncell c 0 from p\np = x and c\nn = not p\nopen p\n")
        product = ["coin p 0 1", "prod p 0 1", "prod p 1 0", "half p 0 1", "back p 1 0", "sum p 0 0", "sum p 0 1",
                   "sum p 1 0", "sum p 1 1", "part p 0", "part p 1", "part n 0", "part n 1"]
        self.assertEqual(list(all_looks(circuit, 0, parts=2)),
                         ["part x 0", "part x 1", "part c 0", "part c 1", *product])
        self.assertEqual(list(all_looks(circuit, 1, parts=2)),
                         ["part x 0", "part x 1", "turn c 0 1", "row c 0 1", "row c 1 0", "part c 0", "part c 1",
                          *product])
        self.assertEqual(list(all_looks(circuit, 1, parts=2, refresh=False)), list(all_looks(circuit, 0, parts=2)))
        backs = [look for look in all_looks(circuit, 0) if look.startswith("back")]
        self.assertEqual(backs, ["back p 1 0", "back p 2 0", "back p 2 1", "back p 3 0", "back p 3 1", "back p 3 2"])
        rows = [look for look in all_looks(circuit, 5, parts=3) if look[:3] in ("tur", "row")]
        self.assertEqual(rows, ["turn c 0 1", "turn c 0 2", "turn c 1 2", "row c 0 1", "row c 0 2", "row c 1 0",
                                "row c 1 2", "row c 2 0", "row c 2 1"])

    def test_four_parts_with_refreshes_unless_told_otherwise(self):
        circuit = Circuit(TEXT)
        self.assertEqual(list(all_looks(circuit, 1)),
                         list(all_looks(circuit=circuit, at=1, parts=4, refresh=True, pieces=None)))
        self.assertEqual(look_count(circuit, 1), look_count(circuit=circuit, at=1, parts=4, refresh=True, pieces={}))
        self.assertTrue(is_look(circuit, "turn a 2 3", 1))
        self.assertTrue(is_look(circuit=circuit, value="turn a 2 3", at=1, parts=4, refresh=True, pieces=None))
        self.assertFalse(is_look(circuit, "turn a 2 4", 1))
        self.assertFalse(is_look(circuit, "turn a 2 3", 1, refresh=False))

    def test_numbers_of_looks(self):
        # 46 or so at each and gate with 4 parts, 22 at each cell.
        circuit = Circuit(TEXT)
        for n in range(2, 11):
            pairs = n * (n - 1) // 2
            gates, cells = 2 * (3 * pairs + 2 * pairs + n * n), 3 * 3 * pairs
            self.assertEqual(look_count(circuit, 0, parts=n), gates + 8 * n)
            self.assertEqual(look_count(circuit, 1, parts=n), gates + cells + 8 * n)
            self.assertEqual(look_count(circuit, 1, parts=n, refresh=False), gates + 8 * n)
        self.assertEqual(look_count(Circuit(""), 3), 0)
        self.assertEqual(list(all_looks(Circuit(""), 3)), [])

    def test_random_circuits(self):
        for source in sources(60):
            case = Case(source, n=source.randint(2, 10), beats=2, refresh=source.random() < 0.5)
            for at, looks in enumerate(case.covering().looks):
                self.agrees(case.text, at, case.n, case.refresh, None, list(looks))

    def test_pieces(self):
        # Pieces at each secret cell, cell and and gate, also all of them.
        pieces = {"a": taken("ring"), "b": taken("refresh"), "p": taken("product"), "s": taken("product4"),
                  "d": taken("ring+0")}
        for names in ("", "a", "b", "p", "s", "d", "ap", "bs", "abps", "abpsd"):
            laid = {name: pieces[name] for name in names}
            for refresh in (True, False):
                run = covering(TEXT, 4, 3, refresh, {name: piece.piece.text() for name, piece in laid.items()})
                for at in range(3):
                    self.agrees(TEXT, at, 4, refresh, laid, list(run.looks[at]))
        for source in sources(40):
            case = Case(source, beats=2, laid=0.6)
            kept = dict(case.pieces)
            for at, looks in enumerate(case.covering().looks):
                self.agrees(case.text, at, 4, True, case.pieces, list(looks))
            self.assertEqual(case.pieces, kept)

    def test_plainly_written_pieces(self):
        circuit = Circuit("cell c 0 from p\np = c and c\n")
        laid = {"c": taken("ring"), "p": taken("product")}
        lines = [f"line p {line[0]}" for line in taken("product").piece.lines()]
        parts = ["part c 0", "part c 1", "part c 2", "part c 3"]
        ends = [*lines, "part p 0", "part p 1", "part p 2", "part p 3"]
        ring = ["line c r01", "line c r12", "line c r23", "line c r03", "line c s01", "line c s03", "line c s10",
                "line c s12", "line c s21", "line c s23", "line c s30", "line c s32"]
        self.assertEqual(list(all_looks(circuit, 0, pieces=laid)), parts + ends)
        self.assertEqual(list(all_looks(circuit, 1, pieces=laid)), ring + parts + ends)
        self.assertEqual(list(all_looks(circuit, 1, refresh=False, pieces=laid)), parts + ends)
        self.assertEqual(look_count(circuit, 1, pieces=laid), 12 + 4 + 46 + 4)

    def test_what_is_no_look(self):
        """Of all looks of any beat, number of parts and circuit, just those of this one are looks."""
        laid = {"a": taken("ring"), "p": taken("product")}
        cases = [(n, refresh, pieces) for n in (2, 3, 4, 5, 10) for refresh in (True, False) for pieces in (None, laid)]
        other = TEXT.replace("p = a and x", "p = a xor x").replace("q = p xor b", "q = p and b")
        candidates = {}
        for n, refresh, pieces in cases:
            for circuit in map(Circuit, (TEXT, other, TEXT.replace("q", "z"))):
                for at in (0, 1):
                    candidates.update(dict.fromkeys(all_looks(circuit, at, parts=n, refresh=refresh, pieces=pieces)))
        for look in random.Random(1).sample(sorted(candidates), 100):
            candidates.update(dict.fromkeys(wrong_ones(look)))
        candidates.update({f"{kind} {wire} {i} {j}": None for kind in KINDS for wire in "abxpqrds"
                           for i in range(5) for j in range(5)})
        candidates.update({f"line {wire} {name}": None for wire in "abxpqrdsz" for name in ("a0", "b3", "c", "r02", "z",
                                                                                            "0", "out")})
        circuit = Circuit(TEXT)
        for n, refresh, pieces in cases:
            for at in (0, 1, 2):
                named = {"parts": n, "refresh": refresh, "pieces": pieces}
                there = set(all_looks(circuit, at, **named))
                for value in candidates:
                    self.assertIs(is_look(circuit, value, at, **named), value in there, (value, at, named))

    def test_any_value(self):
        circuit = Circuit(TEXT)
        for value in ANY_VALUES + [("part a 0",), ["part", "a", 0], {"part a 0": 1}, circuit, b"part a 0", 1.5]:
            for at in (0, 1):
                self.assertIs(is_look(circuit, value, at), False)
                self.assertIs(is_look(circuit, value, at, pieces={"a": taken("ring")}), False)

    def test_generator(self):
        looks = all_looks(Circuit(TEXT), 0)
        self.assertIs(iter(looks), looks)
        self.assertEqual(next(looks), "part a 0")


class Numbers(unittest.TestCase):
    def test_each_kind(self):
        for wire in ("a", "a0", "abcdefgh", "z9", "line", "part", "t1", "if", "word", "turn"):
            for i, j in itertools.product(range(10), repeat=2):
                expected = {}
                if i < j:
                    expected.update({"turn": (i,), "coin": (i,), "half": (i, j)})
                if i > j:
                    expected["back"] = (i,)
                if i != j:
                    expected.update({"row": (i,), "prod": (min(i, j), max(i, j))})
                expected["sum"] = (i,)
                for kind in KINDS:
                    look = f"{kind} {wire} {i} {j}"
                    if kind in expected:
                        self.assertEqual(look_numbers(look), expected[kind])
                        self.assertEqual(type(look_numbers(look=look)), tuple)
                    else:
                        self.assertIs(raised(self, BadLook, look_numbers, look).look, look)
                    self.assertIs(look_form(look), kind in expected)
                self.assertEqual(look_numbers(f"part {wire} {i}"), (i,))
                self.assertIs(look_form(f"part {wire} {i}"), True)

    def test_worked_call(self):
        self.assertEqual([look_numbers("back c 2 0"), look_numbers("half c 0 2")], [(2,), (0, 2)])

    def test_no_forms(self):
        wrong = ["part a", "part", "part a 10", "part a -1", "turn a 0", "turn a 1 1", "row a 2 2", "coin a 2 1",
                 "prod a 3 3", "half a 1 0", "back a 0 1", "sum a 0", "sum a 0 0 0", "part a 0 1", "turn a 0 1 2",
                 "part abcdefghi 0", "part 0a 0", "part  0", "part a  0", "part A 0", "part a_ 0", "part a \n",
                 "part a 0\n", " part a 0", "part a 0 ", "Part a 0", "line a 0", "read part a 0", "part a 00",
                 "prod a 0 01", "part a\t0", "part a a", "row a b c", "part a 0=", "", " ", "a", "turn a 0 10"]
        wrong += [f"part {word} 0" for word in BARRED]
        for look in wrong + ANY_VALUES + [("part a 0",), ["part a 0"]]:
            self.assertIs(raised(self, BadLook, look_numbers, look).look, look)
            self.assertIs(look_form(look), False)
        for look in ("row abcdefgh 0 9", "part a 0", "sum a1 9 9", "turn a 0 9"):
            for near in wrong_ones(look):
                self.assertIs(look_form(near), False, near)
                self.assertIs(raised(self, BadLook, look_numbers, near).look, near)

    def test_line(self):
        for wire, name in itertools.product(("a", "a0", "abcdefgh", "line"), repeat=2):
            look = f"line {wire} {name}"
            self.assertIs(look_form(look), True)
            self.assertIs(look_form(value=look), True)
            self.assertIs(raised(self, BadLook, look_numbers, look).look, look)
            for near in wrong_ones(look):
                # The next to last of the changes makes another name of the last word.
                expected = near.startswith("line ") and near == look[:-1] + "a"
                expected = expected or (near == look + "0" and len(name) < 8)
                self.assertIs(look_form(near), expected, near)
        for look in [f"line a {word}" for word in BARRED + ("abcdefghi", "0", "0a", "A", "")]:
            self.assertIs(look_form(look), False)
        for look in [f"line {word} a" for word in BARRED + ("abcdefghi", "0", "0a", "A", "")]:
            self.assertIs(look_form(look), False)
        for look in ("line a", "line a b c", "line a b 0", "line", "lines a b", "line  a b"):
            self.assertIs(look_form(look), False)


if __name__ == "__main__":
    unittest.main()
