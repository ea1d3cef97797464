import itertools
import unittest

from needleblind.bits import bit_rows, bits_of, number_of, parity


class Bits(unittest.TestCase):
    def test_bits_from_bit_0_on(self):
        self.assertEqual(bits_of(6, 4), (0, 1, 1, 0))
        self.assertEqual(bits_of(0, 0), ())
        self.assertEqual(bits_of(value=1, width=1), (1,))
        self.assertEqual(number_of((0, 1, 1, 0)), 6)
        self.assertEqual(number_of([1, 0, 0, 1]), 9)
        self.assertEqual(number_of(()), 0)
        self.assertEqual(number_of(bits=[]), 0)

    def test_there_and_back_for_all_widths(self):
        for width in range(21):
            greatest = 2 ** width - 1
            for value in {0, 1 & greatest, greatest // 2, greatest // 3, greatest - 1 if width else 0, greatest}:
                row = bits_of(value, width)
                self.assertIs(type(row), tuple)
                self.assertEqual(len(row), width)
                self.assertEqual("".join(str(bit) for bit in reversed(row)), f"{value:0{width}b}" if width else "")
                self.assertEqual(number_of(row), value)
        for value in range(64):
            self.assertEqual(number_of(list(bits_of(value, 6))), value)

    def test_parity(self):
        self.assertEqual(parity(()), 0)
        self.assertEqual(parity(bits=[]), 0)
        for many in range(1, 8):
            for row in itertools.product((0, 1), repeat=many):
                self.assertEqual(parity(row), sum(row) % 2)
                self.assertEqual(parity(list(row)), sum(row) % 2)

    def test_bit_rows_ascend(self):
        self.assertEqual(list(bit_rows(0)), [()])
        self.assertEqual(list(bit_rows(many=2)), [(0, 0), (0, 1), (1, 0), (1, 1)])
        for many in range(15):
            self.assertEqual(list(bit_rows(many)), list(itertools.product((0, 1), repeat=many)))

    def test_bit_rows_is_a_generator(self):
        rows = bit_rows(14)
        self.assertIs(iter(rows), rows)
        self.assertEqual(next(rows), (0,) * 14)
        self.assertEqual(next(rows), (0,) * 13 + (1,))


if __name__ == "__main__":
    unittest.main()
