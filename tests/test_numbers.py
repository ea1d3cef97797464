import itertools
import unittest

from covered import taken
from needleblind.circuits import Circuit
from needleblind.errors import BadLook, TooMany
from needleblind.gates import product_parts, refresh_parts
from needleblind.house import house_piece
from needleblind.judging import judge_piece
from needleblind.looks import all_looks, look_numbers
from needleblind.numbers import least_outside, numbers_looked, turned_door, turned_product, turned_refresh
from needleblind.tapes import parted
from support import ANY_VALUES, raised, random_bits, sources

TEXT = "secret a from a\ncell b 1 from p\np = a and b\nq = p and p\nr = not q\n"
LAID = {"a": "ring", "b": "refresh", "p": "product"}


def laid():
    return {wire: taken(name) for wire, name in LAID.items()}


def turned(row, at):
    """A row with the bits at some places turned."""
    return tuple(1 - bit if place in at else bit for place, bit in enumerate(row))


class LeastOutside(unittest.TestCase):
    def test_all_sets(self):
        for n in range(1, 7):
            for many in range(n + 1):
                for numbers in itertools.combinations(range(n), many):
                    rest = sorted(set(range(n)) - set(numbers))
                    for row in (list(numbers), numbers, list(numbers[::-1]) * 2, list(numbers) + [n, 99]):
                        if rest:
                            self.assertEqual(least_outside(row, n), rest[0])
                        else:
                            error = raised(self, TooMany, least_outside, row, n)
                            self.assertEqual((error.what, error.many), ("numbers", n))
        self.assertEqual(least_outside(numbers=[0, 2, 1], n=4), 3)
        self.assertEqual(raised(self, TooMany, least_outside, [], 0).many, 0)
        self.assertEqual(raised(self, TooMany, least_outside, list(range(9, -1, -1)), 10).many, 10)


class Looked(unittest.TestCase):
    def test_house_looks(self):
        looks = [look for n in (4, 10) for look in all_looks(Circuit(TEXT), 1, parts=n)]
        for source in sources(300):
            told = [source.choice(looks) for _ in range(source.randint(0, 6))]
            numbers = sorted({number for look in told for number in look_numbers(look)})
            refreshed = sorted({int(look.split()[2]) for look in told if look.split()[0] in ("turn", "row")})
            for row in (told, tuple(told), told * 2):
                found = numbers_looked(row)
                self.assertEqual(found, (tuple(numbers), tuple(refreshed)))
                self.assertEqual([type(side) for side in (found, *found)], [tuple] * 3)
                self.assertEqual(numbers_looked(looks=row, pieces={}), found)
                # House looks count wherever pieces are laid.
                self.assertEqual(numbers_looked(row, pieces=laid()), found)
        self.assertEqual(numbers_looked([]), ((), ()))
        self.assertEqual(numbers_looked(["half z 2 7", "turn y 1 5", "row x 4 0", "back w 9 3"]), ((1, 2, 4, 7, 9), (1, 4)))

    def test_lines(self):
        pieces = laid()
        for wire, name in LAID.items():
            for line in taken(name).piece.lines():
                numbers = taken(name).numbers((line[0],))
                told = numbers_looked([f"line {wire} {line[0]}"], pieces=pieces)
                self.assertEqual(told, (numbers, numbers if wire != "p" else ()))
                self.assertEqual(numbers_looked((f"line {wire} {line[0]}",) * 3, pieces=pieces), told)

    def test_lines_of_several_wires(self):
        pieces = laid()
        pieces["q"] = taken("product+0")
        lines = {wire: [line[0] for line in piece.piece.lines()] for wire, piece in pieces.items()}
        for source in sources(200):
            wires = source.sample("abpq", source.randint(0, 4))
            chosen = {wire: source.choice(lines[wire]) for wire in wires}
            house = [source.choice(["turn b 2 3", "part a 3", "row z 0 1", "prod q 3 1"]) for _ in range(source.randrange(3))]
            told = [f"line {wire} {name}" for wire, name in chosen.items()] + house
            told *= source.randint(1, 2)
            source.shuffle(told)
            all_numbers = {number for wire, name in chosen.items() for number in pieces[wire].numbers((name,))}
            refreshed = {number for wire, name in chosen.items() if wire in "ab"
                         for number in pieces[wire].numbers((name,))}
            for look in house:
                all_numbers |= set(look_numbers(look))
                refreshed |= {int(look.split()[2])} if look[0] in "tr" else set()
            self.assertEqual(numbers_looked(told, pieces=pieces),
                             (tuple(sorted(all_numbers)), tuple(sorted(refreshed))))

    def test_lots_of_several_lines(self):
        """Looks line of one wire are one lot, in the order of the piece's lines, however they are told."""
        unlike = 0
        for kind, n, t in (("refresh", 4, 3), ("refresh", 3, 2), ("product", 3, 2)):
            piece = judge_piece(house_piece(kind, n), t=t)
            self.assertTrue(piece.is_taken())
            names = [line[0] for line in piece.piece.lines()]
            for lot in [lot for many in range(t + 1) for lot in itertools.combinations(names, many)]:
                looks = [f"line c {name}" for name in lot[::-1]]
                told = numbers_looked(looks + looks, pieces={"c": piece})
                self.assertEqual(told, (piece.numbers(lot), piece.numbers(lot) if kind == "refresh" else ()))
                one_by_one = {number for name in lot for number in piece.numbers((name,))}
                unlike += set(told[0]) != one_by_one
        self.assertGreater(unlike, 0)

    def test_first_wrong_look(self):
        pieces = laid()
        wrong = ["line c r01", "line a r02", "line a a0", "line p b3", "line p nope", "line a", "part a 10", "turn a 1 0",
                 "", "part and 0", "line a 0", ("part a 0",), ["part a 0"], None, True, 5, {}]
        for value in wrong + ANY_VALUES:
            self.assertIs(raised(self, BadLook, numbers_looked, [value]).look, value)
            self.assertIs(raised(self, BadLook, numbers_looked, [value], pieces=pieces).look, value)
            for after in ("part a 10", "line zz zz", None):
                row = ["part a 0", "line a r01", "line a r01", value, after]
                self.assertIs(raised(self, BadLook, numbers_looked, row, pieces=pieces).look, value)
        self.assertEqual(raised(self, BadLook, numbers_looked, ["part a 0", "line a r01"]).look, "line a r01")
        self.assertEqual(raised(self, BadLook, numbers_looked, ["line a r01"], pieces={}).look, "line a r01")

    def test_what_is_passed_stays(self):
        pieces, looks = laid(), ["line p z01", "part a 0", "line a r01", "part a 0"]
        kept = dict(pieces), list(looks)
        numbers_looked(looks, pieces=pieces)
        self.assertEqual((pieces, looks), kept)


class Turned(unittest.TestCase):
    def test_door(self):
        for n, d in itertools.product(range(2, 11), (0, 1)):
            for k in range(n):
                told = turned_door(d, k, n)
                self.assertEqual(told, [k] if d and k < n - 1 else [])
                for source in sources(5):
                    bit, coins = source.randrange(2), random_bits(source, n - 1)
                    # All parts but number k stay, and that one turns by the difference.
                    self.assertEqual(parted(bit ^ d, turned(coins, told)), turned(parted(bit, coins), [k] if d else []))
        self.assertEqual(turned_door(d=1, k=0, n=2), [0])

    def test_refresh(self):
        for n, d in itertools.product(range(2, 11), (0, 1)):
            pairs = list(itertools.combinations(range(n), 2))
            for k, q in itertools.product(range(n), repeat=2):
                told = turned_refresh(d, k, q, n)
                self.assertEqual(told, [pairs.index((min(k, q), max(k, q)))] if d and k != q else [])
                for source in sources(3):
                    parts, coins = random_bits(source, n), random_bits(source, len(pairs))
                    before = turned(parts, [k] if d else [])
                    self.assertEqual(refresh_parts(before, turned(coins, told)),
                                     turned(refresh_parts(parts, coins), [q] if d else []))
        self.assertEqual(turned_refresh(d=1, k=3, q=1, n=4), [4])

    def test_product(self):
        for n in range(2, 11):
            pairs = list(itertools.combinations(range(n), 2))
            for k, da, db in itertools.product(range(n), (0, 1), (0, 1)):
                for source in sources(8):
                    a, b, coins = random_bits(source, n), random_bits(source, n), random_bits(source, len(pairs))
                    told = turned_product(da, db, a, b, k)
                    expected = [pairs.index((k, j)) for j in range(k + 1, n) if (da * b[j] + a[j] * db) % 2]
                    self.assertEqual(told, expected)
                    self.assertEqual(turned_product(da=da, db=db, a=list(a), b=list(b), k=k), told)
                    others = turned(a, [k] if da else []), turned(b, [k] if db else [])
                    shown = product_parts(a, b, coins), product_parts(*others, turned(coins, told))
                    for at in range(n):
                        if at != k:
                            self.assertEqual(shown[0][at], shown[1][at])


if __name__ == "__main__":
    unittest.main()
