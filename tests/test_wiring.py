import itertools
import unittest

from needleblind.circuits import Circuit
from needleblind.plain import Secrets, plain_rows
from needleblind.wiring import Wiring
from support import sources

INS = ("x", "y", "z")


def opened(wiring, wire):
    """The bits of a wire for all rows of the ins."""
    lines = [f"in {name}" for name in INS]
    lines += [f"{name} = not {a}" if kind == "not" else f"{name} = {a} {kind} {b}" for name, kind, a, b in wiring.laid]
    circuit = Circuit("".join(f"{line}\n" for line in [*lines, f"open {wire}"]))
    return [plain_rows(circuit, Secrets([], [row]), 1)[0][0] for row in itertools.product((0, 1), repeat=3)]


class Laying(unittest.TestCase):
    def test_all_methods_beside_tables(self):
        for source in sources(60):
            wiring = Wiring()
            rows = list(itertools.product((0, 1), repeat=3))
            known = [(name, [row[at] for row in rows]) for at, name in enumerate(INS)]
            known += [(0, [0] * 8), (1, [1] * 8)]
            for _ in range(source.randint(1, 12)):
                (a, left), (b, right), (c, third) = (source.choice(known) for _ in range(3))
                known.append(source.choice((
                    (wiring.flipped_bit(a), [1 - bit for bit in left]),
                    (wiring.unlike(a, b), [bit ^ other for bit, other in zip(left, right)]),
                    (wiring.both(a, b), [bit & other for bit, other in zip(left, right)]),
                    (wiring.unlike_all([a, b, c]), [sum(bits) % 2 for bits in zip(left, right, third)]),
                    (wiring.none_of([a, b, c]), [int(sum(bits) == 0) for bits in zip(left, right, third)]),
                )))
            alike = [(gate[1], *sorted(str(wire) for wire in gate[2:])) for gate in wiring.laid]
            self.assertEqual(len(alike), len(set(alike)))
            for wire, bits in known:
                self.assertEqual(opened(wiring, wiring.named(wire, "x")), bits)

    def test_what_never_changes_needs_no_gate(self):
        wiring = Wiring()
        for a in ("x", 0, 1):
            self.assertEqual((wiring.unlike(a, a), wiring.both(a, a)), (0, a))
            self.assertEqual((wiring.unlike(a, 0), wiring.unlike(0, a)), (a, a))
            self.assertEqual((wiring.both(a, 0), wiring.both(0, a), wiring.both(a, 1), wiring.both(1, a)), (0, 0, a, a))
        self.assertEqual((wiring.flipped_bit(0), wiring.flipped_bit(1)), (1, 0))
        self.assertEqual((wiring.unlike_all([]), wiring.none_of([]), wiring.unlike(1, 0)), (0, 1, 1))
        self.assertEqual(wiring.laid, [])
        turned = wiring.flipped_bit("x")
        self.assertEqual((wiring.flipped_bit("x"), wiring.unlike("x", 1), wiring.unlike(1, "x")), (turned,) * 3)
        self.assertEqual(wiring.flipped_bit(turned), "x")
        self.assertEqual(wiring.unlike("x", "y"), wiring.unlike("y", "x"))
        self.assertEqual(wiring.both("x", "y"), wiring.both("y", "x"))
        self.assertEqual(len(wiring.laid), 3)


if __name__ == "__main__":
    unittest.main()
