import itertools
import unittest

from needleblind.circuits import Circuit
from needleblind.errors import BadTape, NoBit, TooMany
from needleblind.house import house_piece, ring_piece
from needleblind.judging import judge_piece
from needleblind.tapes import Tape, begun, bits_needed, joined, parted
from support import ANY_VALUES, is_row, raised, random_bits, random_circuit, sources


class Making(unittest.TestCase):
    def test_what_is_told(self):
        for bits in ([1, 0, 0, 1], (1, 0, 0, 1)):
            tape = Tape(bits)
            self.assertEqual((tape.bits(), type(tape.bits())), ((1, 0, 0, 1), tuple))
            self.assertEqual((tape.text(), str(tape), repr(tape), len(tape)), ("1001", "1001", "Tape(4 bits)", 4))
            self.assertEqual(list(tape), [1, 0, 0, 1])
            self.assertEqual([tape[at] for at in range(4)], [1, 0, 0, 1])
        self.assertEqual(Tape(bits=[1]).text(), "1")
        self.assertEqual((Tape([]).bits(), Tape([]).text(), repr(Tape(())), len(Tape([]))), ((), "", "Tape(0 bits)", 0))
        self.assertEqual(list(Tape([])), [])
        self.assertEqual(repr(Tape([1])), "Tape(1 bits)")

    def test_wrong_values(self):
        for value in ANY_VALUES + [[2], (1, -1), [0, "1"], [1.0], "01", {0: 1}, [0, 1, True], [[0]], Tape([])]:
            if is_row(value):
                self.assertEqual(Tape(value).bits(), tuple(value))
            else:
                self.assertIs(raised(self, BadTape, Tape, value).value, value)

    def test_most_bits(self):
        self.assertEqual(Tape.MOST, 1000000)
        bits = [0] * 999999 + [1]
        self.assertEqual((len(Tape(bits)), Tape(bits)[999999]), (1000000, 1))
        error = raised(self, TooMany, Tape, bits + [0])
        self.assertEqual((error.what, error.many), ("tape", 1000001))
        many = bits + [2]
        self.assertIs(raised(self, BadTape, Tape, many).value, many)

    def test_reading(self):
        for source in sources(20):
            bits = random_bits(source, source.randint(0, 50))
            text = "".join(map(str, bits))
            self.assertEqual((Tape.read(text).bits(), Tape.read(text=text).text()), (bits, text))
        self.assertEqual(Tape.read("").bits(), ())
        self.assertEqual(len(Tape.read("01" * 100000)), 200000)
        for value in ANY_VALUES + ["012", "01 ", " 01", "0 1", "01\n", "a", "0b1", "-1", b"01", ["0", "1"], Tape([1])]:
            if isinstance(value, str) and set(value) <= {"0", "1"}:
                self.assertEqual(Tape.read(value).text(), value)
            else:
                self.assertIs(raised(self, BadTape, Tape.read, value).value, value)

    def test_copies(self):
        bits = [1, 0, 1]
        tape = Tape(bits)
        bits[0] = 0
        bits.append(1)
        self.assertEqual(tape.bits(), (1, 0, 1))
        list(tape).append(1)
        self.assertEqual(len(tape), 3)


class Using(unittest.TestCase):
    def test_flipped(self):
        tape = Tape.read("10010")
        self.assertEqual(tape.flipped([0, 4, 1]).text(), "01011")
        self.assertEqual(tape.flipped(positions=(2,)).text(), "10110")
        self.assertEqual(tape.flipped([]), tape)
        self.assertEqual(tape.text(), "10010")
        self.assertIsInstance(tape.flipped([1]), Tape)
        self.assertEqual(tape.flipped([1, 3]).flipped([3, 1]), tape)
        positions = [3, 1]
        tape.flipped(positions)
        self.assertEqual(positions, [3, 1])
        for value in ANY_VALUES + [5, 1.0, tape, -5]:
            if not (type(value) is int and 0 <= value < 5):
                self.assertIs(raised(self, NoBit, tape.flipped, [value]).at, value)
                self.assertIs(raised(self, NoBit, tape.flipped, (4, value, 99)).at, value)
        self.assertEqual(raised(self, NoBit, Tape([]).flipped, [0]).at, 0)
        self.assertEqual(tape.text(), "10010")

    def test_items(self):
        tape = Tape.read("10010")
        for value in ANY_VALUES + [5, 4, 1.0, -5, slice(0, 2), tape]:
            if type(value) is int and 0 <= value < 5:
                self.assertEqual(tape[value], int("10010"[value]))
            else:
                self.assertIs(raised(self, NoBit, tape.__getitem__, value).at, value)
                with self.assertRaises(NoBit):
                    tape[value]
        self.assertEqual(raised(self, NoBit, Tape([]).__getitem__, 0).at, 0)

    def test_iterating(self):
        tape = Tape.read("1101")
        self.assertEqual([bit for bit in tape], [1, 1, 0, 1])
        self.assertEqual((sum(tape), list(zip(tape, tape))[2], tuple(tape)), (3, (0, 0), (1, 1, 0, 1)))
        first, *rest = tape
        self.assertEqual((first, rest), (1, [1, 0, 1]))
        for method in ("__iter__", "__len__", "__getitem__", "__xor__", "__eq__"):
            self.assertIn(method, vars(Tape))

    def test_xor(self):
        for one, other in itertools.product(itertools.product((0, 1), repeat=3), repeat=2):
            made = Tape(one) ^ Tape(other)
            self.assertIsInstance(made, Tape)
            self.assertEqual(made.bits(), tuple((a + b) % 2 for a, b in zip(one, other)))
        self.assertEqual((Tape([]) ^ Tape([])).bits(), ())
        tape = Tape([1, 0, 1])
        for other in (Tape([]), Tape([1, 0]), Tape([1, 0, 1, 1])):
            with self.assertRaises(BadTape) as caught:
                tape ^ other
            self.assertIs(caught.exception.value, other)
            with self.assertRaises(BadTape) as caught:
                other ^ tape
            self.assertIs(caught.exception.value, tape)
        self.assertEqual(tape.bits(), (1, 0, 1))

    def test_equal(self):
        tape = Tape([1, 0])
        self.assertTrue(tape == Tape.read("10"))
        self.assertFalse(tape != Tape((1, 0)))
        for value in ANY_VALUES + [Tape([1]), Tape([1, 1]), Tape([0, 1]), Tape([1, 0, 0]), (1, 0), "10"]:
            self.assertFalse(tape == value)
            self.assertTrue(tape != value)


class Parts(unittest.TestCase):
    def test_all_numbers_of_parts(self):
        for n in range(2, 11):
            for source in sources(20):
                coins = random_bits(source, n - 1)
                for bit in (0, 1):
                    for row in (coins, list(coins)):
                        parts = parted(bit, row)
                        self.assertEqual((type(parts), len(parts), parts[:-1]), (tuple, n, coins))
                        self.assertEqual(sum(parts) % 2, bit)
                        self.assertEqual((joined(parts), joined(list(parts)), joined(parts=parts)), (bit,) * 3)
                    self.assertEqual(parted(bit=bit, coins=coins), parts)
                    self.assertEqual(begun(bit, n), (bit,) + (0,) * (n - 1))
                    self.assertEqual((type(begun(bit=bit, n=n)), joined(begun(bit, n))), (tuple, bit))

    def test_example(self):
        self.assertEqual((parted(1, (1, 0, 1)), parted(1, [0, 1, 1])), ((1, 0, 1, 1), (0, 1, 1, 1)))
        coins = [0, 1, 1]
        parted(1, coins)
        self.assertEqual(coins, [0, 1, 1])
        self.assertEqual([joined(row) for row in itertools.product((0, 1), repeat=2)], [0, 1, 1, 0])


class Needed(unittest.TestCase):
    def reckoned(self, circuit, beats, parts, refresh, laid):
        """One by one, as [18] tells the order of the bits."""
        pair = parts * (parts - 1) // 2
        total = sum(parts - 1 for cell in circuit.cells() if cell[1] is None)
        for beat in range(beats):
            if beat > 0 and refresh:
                total += sum(laid.get(cell[0], pair) for cell in circuit.cells())
            total += sum(parts - 1 for _ in circuit.ins())
            total += sum(laid.get(gate[0], pair) for gate in circuit.gates() if gate[1] == "and")
        return total

    def test_worked_call(self):
        circuit = Circuit("secret a from a\nsecret b from b\nc = a and b\n")
        self.assertEqual([bits_needed(circuit, 0), bits_needed(circuit, 1), bits_needed(circuit, 2)], [6, 12, 30])

    def test_random_circuits(self):
        for source in sources(80):
            many = {name: source.randint(0, 3) for name in ("secrets", "cells", "ins")}
            if sum(many.values()) == 0:
                many["ins"] = 1
            circuit = Circuit(random_circuit(source, gates=source.randint(0, 9), opens=1, **many))
            for beats in (0, 1, 2, 3, 64):
                self.assertEqual(bits_needed(circuit, beats), self.reckoned(circuit, beats, 4, True, {}))
                for parts in range(2, 11):
                    for refresh in (True, False):
                        self.assertEqual(bits_needed(circuit, beats, parts=parts, refresh=refresh),
                                         self.reckoned(circuit, beats, parts, refresh, {}))

    def test_circuits_with_little(self):
        self.assertEqual([bits_needed(Circuit(""), beats) for beats in (0, 1, 64)], [0, 0, 0])
        self.assertEqual([bits_needed(Circuit("in x\ny = not x\n"), beats) for beats in (0, 1, 64)], [0, 3, 192])
        self.assertEqual([bits_needed(Circuit("secret a from a\n"), beats) for beats in (0, 1, 2, 64)], [3, 3, 9, 381])
        self.assertEqual([bits_needed(Circuit("cell a 1 from a\n"), beats) for beats in (0, 1, 2, 64)], [0, 0, 6, 378])
        self.assertEqual([bits_needed(Circuit("cell a 1 from a\nb = a xor a\nc = a and a\n"), beats) for beats in (0, 1, 2)],
                         [0, 6, 18])

    def test_pieces(self):
        text = ("secret a from c\ncell b 0 from d\nin x\nc = a and b\nd = c and x\ne = c xor d\nf = e and e\n")
        circuit = Circuit(text)
        ring, house = judge_piece(ring_piece(4)), judge_piece(house_piece("refresh", 4))
        # How many coins a piece has is asked of the piece itself, whatever its n.
        taken, fewer = [judge_piece(house_piece("product", n)) for n in (4, 3)]
        for names in ((), ("a",), ("b",), ("c",), ("a", "b"), ("a", "b", "c", "d", "f")):
            pieces = {name: ring if name == "a" else house if name == "b" else taken if name == "c" else fewer
                      for name in names}
            coins = {name: len(piece.piece.coins()) for name, piece in pieces.items()}
            kept = dict(pieces)
            for beats in (0, 1, 2, 5):
                for refresh in (True, False):
                    self.assertEqual(bits_needed(circuit, beats, refresh=refresh, pieces=pieces),
                                     self.reckoned(circuit, beats, 4, refresh, coins))
            self.assertEqual(pieces, kept)
        self.assertEqual(bits_needed(circuit, 3, pieces=None), bits_needed(circuit, 3, pieces={}))
        self.assertEqual(bits_needed(Circuit("cell a 1 from a\n"), 3, pieces={"a": ring}), 8)
        self.assertEqual(bits_needed(circuit=Circuit("cell a 1 from a\n"), beats=3, refresh=False, pieces={"a": ring}), 0)


if __name__ == "__main__":
    unittest.main()
