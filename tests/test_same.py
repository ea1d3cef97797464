import itertools
import unittest

from needleblind.circuits import Circuit
from needleblind.errors import NotAlike, TooMany
from needleblind.plain import Secrets, plain_rows
from needleblind.same import same
from needleblind.tidy import tidied
from support import opened_rows, raised, random_circuit, sources


def circuit_of(*lines):
    return Circuit("".join(f"{line}\n" for line in lines))


def parting_by_lists(one, other, secrets, ins, most):
    """The least secrets that part in their last beat, by going through all of at most so many later rows."""
    rows = list(itertools.product((0, 1), repeat=ins))
    for beats in range(1, most + 1):
        for first in itertools.product((0, 1), repeat=secrets):
            for later in itertools.product(rows, repeat=beats):
                if opened_rows(one, first, later, beats)[-1] != opened_rows(other, first, later, beats)[-1]:
                    return first, later
    return None


def counter(bits, goal):
    """The lines of a counter that goes on with each in that is 1 and opens whether it stands at a goal, from 0 on."""
    lines = [f"cell c{at} 0 from n{at}" for at in range(bits)] + ["in x"]
    carry, hit = "x", None
    for at in range(bits):
        lines += [f"n{at} = c{at} xor {carry}", f"k{at} = c{at} and {carry}", f"m{at} = not c{at}"]
        carry = f"k{at}"
        bit = f"c{at}" if goal >> at & 1 else f"m{at}"
        if hit is None:
            hit = bit
        else:
            lines.append(f"h{at} = {hit} and {bit}")
            hit = f"h{at}"
    return lines + [f"open {hit}"]


class Case(unittest.TestCase):
    def parts(self, one, other, first, later):
        """These are the first parting secrets, both ways round."""
        for parting in (same(one, other), same(other, one)):
            self.assertIsInstance(parting, Secrets)
            self.assertEqual((parting.first(), parting.later()), (first, later))


class Parting(Case):
    def test_worked_call(self):
        one = Circuit("cell c 0 from c\nopen c\n")
        other = Circuit("cell c 0 from d\nd = not c\nopen c\n")
        self.parts(one, other, (), ((), ()))

    def test_beside_all_secrets(self):
        found = {}
        for source in sources(250):
            secrets = source.randint(0, 2)
            ins = source.randint(0, 1)
            opens = source.randint(1, 2)
            cells = [source.randint(0 if secrets + ins else 1, 2 - secrets // 2) for _ in range(2)]
            texts = [random_circuit(source, secrets, many, ins, source.randint(0, 7), opens) for many in cells]
            if source.random() < 0.5:
                # One that differs from the other in one gate's kind alone is often nearly the same.
                texts[1] = texts[0].replace(" and ", " xor ", 1)
                cells[1] = cells[0]
            one, other = map(Circuit, texts)
            states = 2 ** (2 * secrets + sum(cells))
            most = min(states, 5 if ins else 16)
            expected = parting_by_lists(*texts, secrets, ins, most)
            told = same(one, other)
            if expected is None and told is not None:
                self.assertGreater(len(told.later()), most)
                rows = [plain_rows(circuit, told, len(told.later()))[-1] for circuit in (one, other)]
                self.assertNotEqual(*rows)
                continue
            self.assertEqual(None if told is None else (told.first(), told.later()), expected, texts)
            found[None if told is None else len(told.later())] = True
        self.assertLessEqual({None, 1, 2, 3}, set(found))

    def test_circuits_that_are_the_same(self):
        self.assertIsNone(same(Circuit(""), Circuit("")))
        self.assertIsNone(same(Circuit("in x\nopen x\n"), Circuit("in y\na = not y\nb = not a\nopen b\n")))
        self.assertIsNone(same(circuit_of("secret a from a", "secret b from b", "c = a and b", "open c"),
                               circuit_of("secret p from p", "secret q from q", "c = q and p", "open c")))
        # What is not opened may differ.
        self.assertIsNone(same(circuit_of("secret a from b", "in b"), circuit_of("in b", "secret a from a")))
        # Either one counts the ins, modulo 2; the other one in another way.
        self.assertIsNone(same(circuit_of("cell c 0 from d", "in x", "d = c xor x", "open c"),
                               circuit_of("in x", "cell c 1 from e", "f = not c", "d = f xor x", "e = not d", "open f")))
        for source in sources(40):
            text = random_circuit(source, 2, source.randint(0, 3), source.randint(0, 4), source.randint(0, 20), 3)
            self.assertIsNone(same(Circuit(text), tidied(Circuit(text))))

    def test_in_beat_0(self):
        self.parts(circuit_of("secret a from a", "open a"), circuit_of("secret a from a", "b = not a", "open b"),
                   (0,), ((),))
        self.parts(circuit_of("in x", "open x"), circuit_of("in x", "a = x and x", "b = not a", "open b"), (), ((0,),))
        self.parts(circuit_of("cell a 0 from a", "open a"), circuit_of("cell a 1 from a", "open a"), (), ((),))

    def test_the_order_of_the_lines_counts(self):
        self.parts(circuit_of("secret a from a", "secret b from b", "open a"),
                   circuit_of("secret b from b", "secret a from a", "open a"), (0, 1), ((),))
        self.parts(circuit_of("in a", "in b", "open a"), circuit_of("in b", "in a", "open a"), (), ((0, 1),))
        self.parts(circuit_of("in a", "in b", "open a", "open b"), circuit_of("in a", "in b", "open b", "open a"),
                   (), ((0, 1),))

    def test_open_cells_between_secret_ones(self):
        one = circuit_of("cell c 1 from c", "secret a from a", "cell d 0 from d", "secret b from b", "e = a and b",
                         "f = e and c", "open f")
        self.parts(one, circuit_of("secret a from a", "secret b from b", "c = a xor a", "open c"), (1, 1), ((),))

    def test_one_first_row_alone(self):
        for row in itertools.product((0, 1), repeat=4):
            lines = [f"secret s{at} from s{at}" for at in range(4)] + [f"n{at} = not s{at}" for at in range(4)]
            bits = [f"s{at}" if bit else f"n{at}" for at, bit in enumerate(row)]
            lines += [f"g = {bits[0]} and {bits[1]}", f"h = {bits[2]} and {bits[3]}", "i = g and h"]
            other = [f"secret s{at} from s{at}" for at in range(4)] + ["z = s0 xor s0"]
            self.parts(circuit_of(*lines, "open i"), circuit_of(*other, "open z"), row, ((),))
            # The same, a beat later.
            self.parts(circuit_of("cell c 0 from i", *lines, "open c"), circuit_of(*other, "open z"), row, ((), ()))

    def test_one_row_of_ins_alone(self):
        for row in itertools.product((0, 1), repeat=4):
            lines = [f"in s{at}" for at in range(4)] + [f"n{at} = not s{at}" for at in range(4)]
            bits = [f"s{at}" if bit else f"n{at}" for at, bit in enumerate(row)]
            lines += [f"g = {bits[0]} and {bits[1]}", f"h = {bits[2]} and {bits[3]}", "i = g and h"]
            other = [f"in s{at}" for at in range(4)] + ["z = s0 xor s0"]
            self.parts(circuit_of(*lines, "open i"), circuit_of(*other, "open z"), (), (row,))
            # Two beats later, behind rows that are the least ones; the last row is used by no cell any more.
            later = circuit_of("cell c 0 from i", "cell d 0 from c", *lines, "open d")
            zeros = (0, 0, 0, 0)
            self.parts(later, circuit_of(*other, "open z"), (), (row, zeros, zeros))

    def test_fewest_rows_come_ahead_of_the_least_first_row(self):
        # With s = 1 they part in beat 0, with s = 0 a beat later.
        one = circuit_of("cell c 0 from n", "secret s from s", "n = not s", "d = c xor s", "open d")
        other = circuit_of("secret s from s", "z = s xor s", "open z")
        self.parts(one, other, (1,), ((),))

    def test_the_least_first_row_comes_ahead_of_the_least_later_rows(self):
        # s = 0 needs a later row with 1, s = 1 one with 0.
        one = circuit_of("secret s from s", "in x", "y = s xor x", "open y")
        other = circuit_of("secret s from s", "in x", "y = s xor s", "open y")
        self.parts(one, other, (0,), ((1,),))
        # The cell keeps an in that is unlike the next one.
        one = circuit_of("cell c 0 from x", "secret s from s", "in x", "y = c xor x", "cell d 0 from y", "z = d and s",
                         "open z")
        other = circuit_of("secret s from s", "in x", "z = s xor s", "open z")
        self.parts(one, other, (1,), ((1,), (0,)))

    def test_late(self):
        for many in (1, 2, 5, 64, 65, 127, 700, 1000):
            one = circuit_of(*counter(10, many))
            other = circuit_of("in x", "z = x xor x", "open z")
            self.parts(one, other, (), ((1,),) * many + ((0,),))
        # Without ins a counter goes on by itself.
        for bits in (3, 7, 10):
            lines = counter(bits, 2 ** bits - 1)
            lines[lines.index("in x")] = "x = o and o"
            other = circuit_of("cell z 0 from z", "open z")
            self.parts(circuit_of("cell o 1 from o", *lines), other, (), ((),) * 2 ** bits)

    def test_by_states_of_both(self):
        # Rings with one 1 each: a row of cells is opened with a 1 in every fifth, and in every seventh beat.
        five = [f"cell a{at} {int(at == 4)} from a{(at - 1) % 5}" for at in range(5)]
        seven = [f"cell b{at} {int(at == 6)} from b{(at - 1) % 7}" for at in range(7)]
        self.parts(circuit_of(*five, "open a3"), circuit_of(*seven, "open b3"), (), ((),) * 10)
        self.parts(circuit_of(*five, "open a4"), circuit_of(*seven, "open b6"), (), ((),) * 6)
        # In one circuit, rings of 4 and 7 are both 1 in beat 20 first; the other circuit opens 0 always.
        four = [f"cell a{at} {int(at == 3)} from a{(at - 1) % 4}" for at in range(4)]
        both = circuit_of(*four, *seven, "c = a3 and b5", "open c")
        self.parts(both, circuit_of("cell z 0 from z", "open z"), (), ((),) * 21)

    def test_told_and_passed(self):
        one, other = Circuit("in x\nopen x\n"), Circuit("in x\ny = not x\nopen y\n")
        self.assertTrue(same(one=one, other=other) == same(one, other))
        self.assertEqual((one.text(), other.text()), ("in x\nopen x\n", "in x\ny = not x\nopen y\n"))


class Refusing(unittest.TestCase):
    def lines(self, secrets=0, cells=0, ins=0, opens=0):
        lines = [f"secret s{at} from s{at}" for at in range(secrets)]
        lines += [f"cell c{at} 0 from c{at}" for at in range(cells)]
        lines += [f"in x{at}" for at in range(ins)]
        return lines + [f"open {lines[0].split()[1]}" for _ in range(opens)]

    def refused(self, one, other, what, many=None):
        for first, second in ((one, other), (other, one)):
            circuits = circuit_of(*self.lines(*first)), circuit_of(*self.lines(*second))
            if many is None:
                self.assertEqual(raised(self, NotAlike, same, *circuits).what, what)
            else:
                error = raised(self, TooMany, same, *circuits)
                self.assertEqual((error.what, error.many), (what, many))

    def test_unlike_numbers(self):
        self.refused((1, 0, 0, 0), (2, 0, 0, 0), "secrets")
        self.refused((0, 1, 0, 0), (1, 0, 0, 0), "secrets")
        self.refused((1, 0, 1, 0), (1, 0, 2, 0), "ins")
        self.refused((1, 0, 1, 1), (1, 0, 1, 2), "opens")
        self.refused((1, 0, 1, 1), (1, 3, 1, 0), "opens")
        self.assertIsNone(same(circuit_of(*self.lines(1, 0, 1, 1)), circuit_of(*self.lines(1, 3, 1, 1))))

    def test_bounds(self):
        self.refused((6, 1, 0, 0), (6, 0, 0, 0), "cells", 13)
        self.refused((0, 13, 0, 0), (0, 0, 0, 0), "cells", 13)
        self.refused((7, 0, 0, 0), (7, 0, 0, 0), "cells", 14)
        self.refused((60, 60, 4, 8), (60, 60, 4, 8), "cells", 240)
        self.refused((0, 0, 5, 0), (0, 0, 5, 0), "ins", 5)
        self.refused((0, 0, 16, 1), (0, 0, 16, 1), "ins", 16)
        for one, other in (((6, 0, 4, 8), (6, 0, 4, 8)), ((0, 12, 4, 0), (0, 0, 4, 0)), ((3, 0, 4, 1), (3, 6, 4, 1)),
                           ((0, 11, 0, 0), (0, 1, 0, 0))):
            self.assertIsNone(same(circuit_of(*self.lines(*one)), circuit_of(*self.lines(*other))))

    def test_several_at_once(self):
        self.refused((7, 0, 5, 1), (8, 0, 6, 2), "secrets")
        self.refused((7, 0, 5, 1), (7, 0, 6, 2), "ins")
        self.refused((7, 0, 5, 1), (7, 0, 5, 2), "opens")
        self.refused((7, 0, 5, 1), (7, 0, 5, 1), "cells", 14)
        self.refused((6, 0, 5, 1), (6, 0, 5, 1), "ins", 5)

    def test_greatest_circuits(self):
        heads = [f"secret c{at} from g{3999 - at}" for at in range(6)] + [f"in x{at}" for at in range(4)]
        gates = []
        for at in range(4000):
            a = f"c{at % 6}" if at % 3 else f"x{at % 4}"
            gates.append(f"g{at} = {a} {'and' if at % 5 == 1 else 'xor'} {f'g{at - 1}' if at else 'c5'}")
        one = circuit_of(*heads, *gates, *["open g3999", "open g2000"] * 4)
        self.assertIsNone(same(one, one))
        other = circuit_of(*heads, *gates[:-1], "g3999 = x0 and g3998", *["open g3999", "open g2000"] * 4)
        told = same(one, other)
        many = len(told.later())
        self.assertNotEqual(plain_rows(one, told, many)[-1], plain_rows(other, told, many)[-1])
        self.assertEqual(plain_rows(one, told, many)[:-1], plain_rows(other, told, many)[:-1])


if __name__ == "__main__":
    unittest.main()
