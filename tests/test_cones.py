import itertools
import unittest

from covered import Covering, needed, random_rule, Case
from needleblind.circuits import Circuit
from needleblind.cones import cone
from needleblind.errors import BadLook, BadNumber
from needleblind.looks import all_looks
from needleblind.plain import Secrets
from needleblind.rules import Fixed
from needleblind.runs import Run
from needleblind.tapes import Tape, bits_needed
from support import ANY_VALUES, raised, random_bits, random_circuit, sources

TEXT = "secret a from p\ncell b 1 from a\nin x\np = a and x\nq = p xor b\nr = not q\ns = r and r\nt = s xor s\nopen q\n"


class Stain:
    """A bit that keeps the tape positions of all that was added or multiplied to make it."""

    def __init__(self, places):
        self.places = frozenset(places)

    def __add__(self, other):
        return Stain(self.places | (other.places if isinstance(other, Stain) else frozenset()))

    def __mod__(self, other):
        return self

    __radd__ = __mul__ = __rmul__ = __rsub__ = __add__


def stained(text, n, beats, refresh=True):
    """For each beat a dict from each look to its cone, by a covered run with such bits."""
    zeros = [0] * 99
    tape = [Stain([at]) for at in range(needed(text, n, beats, refresh))]
    run = Covering(text, zeros, [zeros] * beats, tape, n, refresh).go(beats)
    return [{look: sorted(bit.places) if isinstance(bit, Stain) else [] for look, bit in looks.items()}
            for looks in run.looks]


class Cones(unittest.TestCase):
    def agrees(self, text, n, beats, refresh):
        circuit = Circuit(text)
        for at, cones in enumerate(stained(text, n, beats, refresh)):
            self.assertEqual(list(cones), list(all_looks(circuit, at, parts=n, refresh=refresh)))
            for look, places in cones.items():
                self.assertEqual(cone(circuit, look, at, parts=n, refresh=refresh), places, (look, at))

    def test_every_look(self):
        for refresh in (True, False):
            for n in range(2, 11):
                self.agrees(TEXT, n, 3 if n < 7 else 2, refresh)

    def test_random_circuits(self):
        for source in sources(60):
            text = random_circuit(source, secrets=source.randint(1, 2), cells=source.randint(0, 2),
                                  ins=source.randint(0, 2), gates=source.randint(0, 6))
            self.agrees(text, source.randint(2, 5), source.randint(1, 4), source.random() < 0.6)

    def test_four_parts_with_refreshes_unless_told_otherwise(self):
        circuit = Circuit(TEXT)
        for look, at in (("row b 3 1", 2), ("part s 3", 1), ("half p 0 1", 0)):
            told = cone(circuit, look, at)
            self.assertEqual(told, stained(TEXT, 4, 3)[at][look])
            self.assertEqual(cone(circuit=circuit, look=look, at=at, parts=4, refresh=True), told)
            self.assertIs(type(told), list)
            told.append(1000)
            self.assertEqual(cone(circuit, look, at), told[:-1])

    def test_plainly_written(self):
        circuit = Circuit("secret a from a\nsecret b from b\nc = a and b\n")
        # The door has 0 1 2 for a, and 3 4 5 for b; z01 to z23 are 6 to 11.
        for look, places in (("part a 1", [1]), ("part b 3", [3, 4, 5]), ("coin c 1 3", [10]), ("prod c 0 1", [0, 4]),
                             ("half c 0 1", [0, 4, 6]), ("back c 1 0", [0, 1, 3, 4, 6]),
                             ("back c 3 0", [0, 1, 2, 3, 4, 5, 8]), ("sum c 0 0", [0, 3]), ("sum c 0 1", [0, 3, 6]),
                             ("sum c 0 3", [0, 3, 6, 7, 8]), ("part c 0", [0, 3, 6, 7, 8]), ("sum c 1 1", [1, 4]),
                             ("sum c 1 0", [0, 1, 3, 4, 6]), ("sum c 1 2", [0, 1, 3, 4, 6, 9]),
                             ("part c 1", [0, 1, 3, 4, 6, 9, 10]), ("sum c 3 3", [0, 1, 2, 3, 4, 5]),
                             ("part c 3", [0, 1, 2, 3, 4, 5, 8, 10, 11])):
            self.assertEqual(cone(circuit, look, 0), places)
        self.assertEqual(cone(circuit, "turn a 1 3", 1), [16])
        self.assertEqual(cone(circuit, "row a 1 0", 1), [1, 12])
        self.assertEqual(cone(circuit, "row a 1 2", 1), [1, 12, 15])
        self.assertEqual(cone(circuit, "part a 1", 1), [1, 12, 15, 16])
        self.assertEqual(cone(circuit, "part a 1", 1, refresh=False), [1])
        circuit = Circuit("cell a 1 from a\nin x\nb = not a\nc = a xor x\n")
        self.assertEqual([cone(circuit, f"part a {i}", 0) for i in range(4)], [[]] * 4)
        self.assertEqual([cone(circuit, f"part {wire} 0", 0) for wire in "bc"], [[], [0]])
        self.assertEqual(cone(circuit, "part b 0", 1), [3, 4, 5])
        self.assertEqual(cone(circuit, "part b 0", 1, refresh=False), [])
        self.assertEqual(cone(circuit, "part x 3", 1), [9, 10, 11])

    def test_a_wire_with_itself_is_no_exception(self):
        circuit = Circuit("in x\ny = x xor x\nz = x and x\n")
        self.assertEqual(cone(circuit, "part y 1", 0), [1])
        self.assertEqual(cone(circuit, "part y 3", 0), [0, 1, 2])
        self.assertEqual(cone(circuit, "prod z 0 1", 0), [0, 1])
        self.assertEqual(cone(circuit, "sum z 2 2", 0), [2])

    def test_bits_outside_of_the_cones_change_no_reading(self):
        kept = 0
        for source in sources(60):
            case = Case(source, beats=source.randint(1, 4))
            circuit, secrets = Circuit(case.text), Secrets(case.first, case.later)
            run = Run(circuit, secrets, Tape(case.tape), rule=random_rule(source, case, 1))
            run.go(case.beats)
            touched = {place for at, looks in enumerate(run.looked) for look in looks for place in cone(circuit, look, at)}
            outside = [at for at in range(len(case.tape)) if at not in touched]
            for many in (1, len(outside) // 2, len(outside)):
                turned = Tape(case.tape).flipped(source.sample(outside, min(many, len(outside))))
                other = Run(circuit, secrets, turned, rule=Fixed(run.looked))
                other.go(case.beats)
                self.assertEqual(other.readings, run.readings)
                kept += turned != Tape(case.tape)
        self.assertGreater(kept, 100)

    def test_each_position_of_a_cone_without_products_counts(self):
        text = "secret a from a\nsecret b from b\nin x\nc = a xor b\nd = c xor x\ne = not d\n"
        circuit = Circuit(text)
        for source in sources(20):
            tape = Tape(random_bits(source, bits_needed(circuit, 2)))
            secrets = Secrets([0, 1], [[1], [0]])
            run = Run(circuit, secrets, tape, rule=Fixed([]))
            run.go(2)
            look = source.choice(list(all_looks(circuit, 1)))
            for place in cone(circuit, look, 1):
                other = Run(circuit, secrets, tape.flipped([place]), rule=Fixed([]))
                other.go(2)
                self.assertNotEqual(other.worth(look), run.worth(look))

    def test_the_last_beat(self):
        # Each gate reads the one before it twice, so that the ways back from beat 63 are far too many to be gone one by one.
        gates = ["g0 = a and b"] + [f"g{at} = g{at - 1} {'and' if at % 2 else 'xor'} g{at - 1}" for at in range(1, 60)]
        circuit = Circuit("".join(f"{line}\n" for line in ["secret a from g59", "cell b 0 from g40", "in x", *gates]))
        for n, refresh in ((4, True), (2, False), (10, True)):
            told = cone(circuit, f"part g59 {n - 1}", 63, parts=n, refresh=refresh)
            self.assertEqual(told, sorted(set(told)))
            self.assertGreater(len(told), 64 * 30 * (n - 1) // 2)
            self.assertLess(told[-1], bits_needed(circuit, 64, parts=n, refresh=refresh))
            self.assertEqual(told[:n - 1], list(range(n - 1)))
        self.assertEqual(cone(circuit, "part x 0", 63), [bits_needed(circuit, 63) + 12])


class Errors(unittest.TestCase):
    def test_beats(self):
        circuit = Circuit(TEXT)
        for value in ANY_VALUES + [63, 64, 65, 1.0, "0", circuit]:
            if type(value) is int and 0 <= value <= 63:
                self.assertEqual(len(cone(circuit, "part a 0", value)) > 0, True)
            else:
                self.assertIs(raised(self, BadNumber, cone, circuit, "part a 0", value).value, value)
                self.assertIs(raised(self, BadNumber, cone, circuit, None, value).value, value)

    def test_looks(self):
        circuit = Circuit(TEXT)
        for n, refresh, at in itertools.product((2, 4, 5), (True, False), (0, 1, 63)):
            there = set(all_looks(circuit, at, parts=n, refresh=refresh))
            others = [look for many in (2, 4, 5) for beat in (0, 1) for look in all_looks(circuit, beat, parts=many)]
            for value in ANY_VALUES + others + ["line p z01", "part z 0", "turn p 0 1", "back p 0 1"]:
                if not (isinstance(value, str) and value in there):
                    error = raised(self, BadLook, cone, circuit, value, at, parts=n, refresh=refresh)
                    self.assertIs(error.look, value)


if __name__ == "__main__":
    unittest.main()
