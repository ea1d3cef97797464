import unittest

from needleblind.names import is_bit, is_bits, is_name, is_number, program_name, wire_name
from support import ANY_VALUES

OWN_WORDS = "width secret word row if else while end show stop half twice".split()
CIRCUIT_WORDS = "and cell coin from in not open out piece secret xor".split()
GOOD = ["a", "z", "a0", "abc9", "zzzzzzzz", "a2345678", "t", "ta", "tt1", "t1a", "at1", "e9"]
BAD = ["", "A", "aB", "0", "0a", "9", "a b", " a", "a ", "a\n", "\n", "a_b", "a-b", "_a", "abcdefghi", "a23456789",
       "=", "a=", "~"]
FUNCTIONS = (is_name, program_name, wire_name)


class Names(unittest.TestCase):
    def check(self, found, expected, value):
        self.assertIs(found, expected, repr(value))

    def test_names_of_each_length(self):
        for function in FUNCTIONS:
            for many in range(12):
                self.check(function("a" * many), 1 <= many <= 8, many)

    def test_signs_of_names(self):
        for function in FUNCTIONS:
            for name in GOOD:
                self.check(function(name), True, name)
            for name in BAD:
                self.check(function(name), False, name)
        for code in [10] + list(range(32, 127)):
            sign = chr(code)
            self.check(is_name(sign), "a" <= sign <= "z", sign)
            self.check(is_name("a" + sign), "a" <= sign <= "z" or "0" <= sign <= "9", sign)

    def test_own_words_are_no_names_of_a_program(self):
        for word in OWN_WORDS:
            self.check(program_name(word), False, word)
            self.check(is_name(word), True, word)
            self.check(wire_name(word), word not in CIRCUIT_WORDS, word)
            self.check(program_name(word[:-1] + "q"), True, word)

    def test_temps_are_no_names_of_a_program(self):
        for word in ("t0", "t1", "t9", "t00", "t01", "t10", "t1234567"):
            self.check(program_name(word), False, word)
            self.check(is_name(word), True, word)
            self.check(wire_name(word), True, word)

    def test_words_of_circuits_are_no_wires(self):
        for word in CIRCUIT_WORDS:
            self.check(wire_name(word), False, word)
            self.check(is_name(word), True, word)
            self.check(program_name(word), word not in OWN_WORDS, word)
        self.check(wire_name("xors"), True, "xors")

    def test_any_values_are_no_names(self):
        for value in ANY_VALUES:
            if not isinstance(value, str):
                for function in FUNCTIONS:
                    self.check(function(value), False, value)


class Numbers(unittest.TestCase):
    def test_bounds(self):
        for least in range(-3, 4):
            for most in range(-3, 4):
                for value in range(-5, 6):
                    self.assertIs(is_number(value, least, most), least <= value <= most)
        self.assertIs(is_number(999999999, 0, 999999999), True)
        self.assertIs(is_number(value=3, least=3, most=3), True)

    def test_other_values(self):
        for value in ANY_VALUES:
            if not isinstance(value, int) or isinstance(value, bool):
                self.assertIs(is_number(value, -5, 999999999), False)
                self.assertIs(is_bit(value), False)

    def test_bits(self):
        for value in range(-3, 4):
            self.assertIs(is_bit(value), value in (0, 1))
        self.assertIs(is_bit(True), False)
        self.assertIs(is_bit(False), False)


class RowsOfBits(unittest.TestCase):
    def test_without_many(self):
        for row in ((), (0,), (1, 1), (0, 1, 0, 0)):
            self.assertIs(is_bits(row), True)
            self.assertIs(is_bits(list(row)), True)
            self.assertIs(is_bits(row, None), True)
        for row in ((2,), (0, -1), (True,), (0, False), ("0",), (None,), ((0,),), ([],)):
            self.assertIs(is_bits(row), False)
            self.assertIs(is_bits(list(row)), False)

    def test_with_many(self):
        for many in range(5):
            for length in range(5):
                self.assertIs(is_bits([1] * length, many), many == length)
                self.assertIs(is_bits((0,) * length, many=many), many == length)
            self.assertIs(is_bits([2] * many, many), many == 0)

    def test_any_values(self):
        for value in ANY_VALUES:
            expected = type(value) in (list, tuple) and all(type(item) is int and item in (0, 1) for item in value)
            self.assertIs(is_bits(value), expected, repr(value))
            self.assertIs(is_bits(value, 2), expected and len(value) == 2, repr(value))
        self.assertIs(is_bits([0, 1], True), True)
        self.assertIs(is_bits("01"), False)
        self.assertIs(is_bits({0: 1}), False)
        self.assertIs(is_bits(0), False)

    def test_what_is_passed_stays(self):
        row = [0, 1, True]
        is_bits(row)
        self.assertEqual(row, [0, 1, True])


if __name__ == "__main__":
    unittest.main()
