import itertools
import unittest

from needleblind.errors import BadName, BadNumber, TooMany
from needleblind.house import house_piece, ring_piece
from needleblind.pieces import Piece
from support import ANY_VALUES, raised


def pairs(n):
    return itertools.combinations(range(n), 2)


def refresh_text(n, coins):
    """The text of a refresh with coins for some pairs, which are told in the order of their lines."""
    lines = [f"piece refresh {n}"] + [f"coin r{i}{j}" for i, j in coins]
    outs = []
    for i in range(n):
        last = f"a{i}"
        for j in range(n):
            if j != i and tuple(sorted((i, j))) in coins:
                low, high = sorted((i, j))
                lines.append(f"s{i}{j} = {last} xor r{low}{high}")
                last = f"s{i}{j}"
        outs.append(last)
    return "\n".join(lines + ["out " + " ".join(outs)]) + "\n"


def product_text(n):
    lines = [f"piece product {n}"] + [f"coin z{i}{j}" for i, j in pairs(n)]
    lines += [f"p{i}{j} = a{i} and b{j}" for i, j in itertools.product(range(n), repeat=2) if i != j]
    lines += [f"q{i} = a{i} and b{i}" for i in range(n)]
    lines += [f"h{i}{j} = z{i}{j} xor p{i}{j}" for i, j in pairs(n)]
    lines += [f"k{j}{i} = h{i}{j} xor p{j}{i}" for i, j in pairs(n)]
    outs = []
    for i in range(n):
        last = f"q{i}"
        for j in range(n):
            if j != i:
                lines.append(f"s{i}{j} = {last} xor {'zk'[j < i]}{i}{j}")
                last = f"s{i}{j}"
        outs.append(last)
    return "\n".join(lines + ["out " + " ".join(outs)]) + "\n"


class House(unittest.TestCase):
    def test_worked_call(self):
        self.assertEqual(house_piece("refresh", 2).text(),
                         "piece refresh 2\ncoin r01\ns01 = a0 xor r01\ns10 = a1 xor r01\nout s01 s10\n")

    def test_small_texts(self):
        self.assertEqual(house_piece("product", 2).text(), (
            "piece product 2\ncoin z01\np01 = a0 and b1\np10 = a1 and b0\nq0 = a0 and b0\nq1 = a1 and b1\n"
            "h01 = z01 xor p01\nk10 = h01 xor p10\ns01 = q0 xor z01\ns10 = q1 xor k10\nout s01 s10\n"))
        self.assertEqual(house_piece("refresh", 3).text(), (
            "piece refresh 3\ncoin r01\ncoin r02\ncoin r12\ns01 = a0 xor r01\ns02 = s01 xor r02\ns10 = a1 xor r01\n"
            "s12 = s10 xor r12\ns20 = a2 xor r02\ns21 = s20 xor r12\nout s02 s12 s21\n"))
        self.assertEqual(ring_piece(3).text(), (
            "piece refresh 3\ncoin r01\ncoin r12\ncoin r02\ns01 = a0 xor r01\ns02 = s01 xor r02\ns10 = a1 xor r01\n"
            "s12 = s10 xor r12\ns20 = a2 xor r02\ns21 = s20 xor r12\nout s02 s12 s21\n"))
        self.assertEqual(ring_piece(4).text(), (
            "piece refresh 4\ncoin r01\ncoin r12\ncoin r23\ncoin r03\ns01 = a0 xor r01\ns03 = s01 xor r03\n"
            "s10 = a1 xor r01\ns12 = s10 xor r12\ns21 = a2 xor r12\ns23 = s21 xor r23\ns30 = a3 xor r03\n"
            "s32 = s30 xor r23\nout s03 s12 s23 s32\n"))

    def test_all_that_fit(self):
        for n in (2, 3, 4):
            self.assertEqual(house_piece("refresh", n).text(), refresh_text(n, list(pairs(n))))
            self.assertEqual(house_piece("product", n).text(), product_text(n))
            self.assertEqual(house_piece(kind="product", n=n), Piece(product_text(n)))
            self.assertIsInstance(house_piece("refresh", n), Piece)
        for n in range(3, 8):
            coins = [(at, at + 1) for at in range(n - 1)] + [(0, n - 1)]
            self.assertEqual(ring_piece(n=n).text(), refresh_text(n, coins))
            self.assertIsInstance(ring_piece(n), Piece)

    def test_all_that_do_not_fit(self):
        for n in range(2, 11):
            coins = n * (n - 1) // 2
            self.bounds(lambda: house_piece("refresh", n), 3 * coins, n + coins)
            self.bounds(lambda: house_piece("product", n), 7 * coins + n, 2 * n + coins)
            if n > 2:
                self.bounds(lambda: ring_piece(n), 3 * n, 2 * n)

    def bounds(self, call, lines, bits):
        if lines <= 80 and bits <= 14:
            self.assertEqual(len(call().lines()), lines)
            self.assertEqual(len(call().parts()) + len(call().coins()), bits)
            return
        error = raised(self, TooMany, call)
        self.assertEqual((error.what, error.many), ("lines", lines) if lines > 80 else ("bits", bits))

    def test_kinds(self):
        for kind in ANY_VALUES + ["Product", "refresh ", "ring", "coin", "piece", ("product",), ["refresh"], house_piece]:
            for n in (3, 4, 9, 11, None):
                self.assertIs(raised(self, BadName, house_piece, kind, n).value, kind)

    def test_numbers_of_parts(self):
        for n in ANY_VALUES + [11, 100, 3.0, "3", (3,), Piece("piece refresh 2\nout a0 a1\n")]:
            if type(n) is int and n == 2:
                self.assertIs(raised(self, BadNumber, ring_piece, n).value, n)
                continue
            self.assertIs(raised(self, BadNumber, ring_piece, n).value, n)
            for kind in ("product", "refresh"):
                self.assertIs(raised(self, BadNumber, house_piece, kind, n).value, n)


if __name__ == "__main__":
    unittest.main()
