import itertools
import unittest

from covered import Covering
from needleblind.gates import not_parts, product_parts, product_wires, refresh_parts, refresh_wires, xor_parts
from needleblind.pairs import number_pairs, pair_place
from support import random_bits, sources


def rows_for(source, n):
    """Two rows of parts and a row of coins."""
    return random_bits(source, n), random_bits(source, n), random_bits(source, n * (n - 1) // 2)


def looks_within(looks):
    """The items of looks at the wire c, by kind and digits."""
    found = {}
    for look, bit in looks.items():
        kind, _, i, j = look.split()
        found[kind, int(i), int(j)] = bit
    return found


class Gates(unittest.TestCase):
    def test_xor_and_not(self):
        for n in range(2, 11):
            for source in sources(30):
                a, b, _ = rows_for(source, n)
                told = xor_parts(a, b)
                self.assertEqual((told, type(told)), (tuple((x + y) % 2 for x, y in zip(a, b)), tuple))
                told = not_parts(a)
                self.assertEqual((told, type(told)), ((1 - a[0],) + a[1:], tuple))
                self.assertEqual((xor_parts(a=list(a), b=list(b)), not_parts(a=list(a))), (xor_parts(a, b), told))
                self.assertEqual(sum(told) % 2, 1 - sum(a) % 2)

    def test_refresh(self):
        for n in range(2, 11):
            for source in sources(40):
                a, _, coins = rows_for(source, n)
                expected, looks = Covering("cell c 0 from c\n", [], [], coins, n).refreshed("c", list(a))
                told = refresh_parts(a, coins)
                self.assertEqual((told, type(told)), (tuple(expected), tuple))
                self.assertEqual(sum(told) % 2, sum(a) % 2)
                wires = refresh_wires(a, coins)
                self.assertEqual(wires, looks_within(looks))
                self.assertEqual(refresh_parts(parts=list(a), coins=list(coins)), told)
                self.assertEqual(refresh_wires(parts=list(a), coins=list(coins)), wires)
                # The last row of each number is its new part.
                self.assertEqual(tuple(wires["row", i, n - 1 if i < n - 1 else n - 2] for i in range(n)), told)
                self.assertEqual(len(wires), n * (n - 1) // 2 + n * (n - 1))

    def test_product(self):
        for n in range(2, 11):
            for source in sources(40):
                a, b, coins = rows_for(source, n)
                expected, looks = Covering("c = c and c\n", [], [], coins, n).multiplied("c", list(a), list(b))
                told = product_parts(a, b, coins)
                self.assertEqual((told, type(told)), (tuple(expected), tuple))
                self.assertEqual(sum(told) % 2, sum(a) * sum(b) % 2)
                wires = product_wires(a, b, coins)
                self.assertEqual(wires, looks_within(looks))
                self.assertEqual(product_parts(a=list(a), b=list(b), coins=list(coins)), told)
                self.assertEqual(product_wires(a=list(a), b=list(b), coins=list(coins)), wires)
                self.assertEqual(tuple(wires["sum", i, n - 1 if i < n - 1 else n - 2] for i in range(n)), told)
                self.assertEqual(len(wires), 3 * n * (n - 1) // 2 + n * (n - 1) + n * n)

    def test_all_small_rows(self):
        for a, b, coin in itertools.product(itertools.product((0, 1), repeat=2), itertools.product((0, 1), repeat=2),
                                            (0, 1)):
            half = coin ^ (a[0] & b[1])
            back = half ^ (a[1] & b[0])
            self.assertEqual(product_parts(a, b, (coin,)), ((a[0] & b[0]) ^ coin, (a[1] & b[1]) ^ back))
            self.assertEqual(product_wires(a, b, (coin,)), {
                ("coin", 0, 1): coin, ("prod", 0, 1): a[0] & b[1], ("prod", 1, 0): a[1] & b[0], ("half", 0, 1): half,
                ("back", 1, 0): back, ("sum", 0, 0): a[0] & b[0], ("sum", 0, 1): (a[0] & b[0]) ^ coin,
                ("sum", 1, 1): a[1] & b[1], ("sum", 1, 0): (a[1] & b[1]) ^ back})
            self.assertEqual(refresh_parts(a, (coin,)), (a[0] ^ coin, a[1] ^ coin))
            self.assertEqual(refresh_wires(a, (coin,)),
                             {("turn", 0, 1): coin, ("row", 0, 1): a[0] ^ coin, ("row", 1, 0): a[1] ^ coin})

    def test_first_example(self):
        a, b, coins = (1, 0, 1, 1), (0, 1, 1, 1), (1, 1, 0, 1, 0, 0)
        wires = product_wires(a, b, coins)
        self.assertEqual([wires["half", 0, 1], wires["back", 1, 0], wires["half", 0, 3], wires["back", 3, 0],
                          wires["half", 1, 2], wires["back", 2, 1]], [0, 0, 1, 1, 1, 0])
        self.assertEqual(product_parts(a, b, coins), (0, 1, 1, 1))

    def test_sums_in_the_order_of_the_text(self):
        # With i = 2: a_2 and b_2, then z_20, then z_21, then z_23.
        a, b, coins = (0, 0, 1, 0), (0, 0, 1, 0), (0, 1, 0, 1, 0, 1)
        wires = product_wires(a, b, coins)
        self.assertEqual([wires["sum", 2, j] for j in (2, 0, 1, 3)], [1, 0, 1, 0])

    def test_what_is_passed_stays(self):
        a, b, coins = [1, 0, 1], [0, 1, 1], [1, 1, 0]
        for call, rows in ((xor_parts, (a, b)), (not_parts, (a,)), (refresh_parts, (a, coins)),
                           (product_parts, (a, b, coins)), (refresh_wires, (a, coins)), (product_wires, (a, b, coins))):
            told = call(*rows)
            self.assertEqual((a, b, coins), ([1, 0, 1], [0, 1, 1], [1, 1, 0]))
            if isinstance(told, dict):
                told.clear()
                self.assertEqual(len(call(*rows)) > 0, True)


class Pairs(unittest.TestCase):
    def test_places(self):
        for n in range(0, 11):
            pairs = list(itertools.combinations(range(n), 2))
            self.assertEqual(number_pairs(n), pairs)
            for at, (i, j) in enumerate(pairs):
                self.assertEqual((pair_place(i, j, n), pair_place(j, i, n)), (at, at))


if __name__ == "__main__":
    unittest.main()
