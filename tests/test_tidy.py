import itertools
import unittest

from needleblind.circuits import Circuit
from needleblind.codes import Code
from needleblind.errors import TooMany
from needleblind.plain import Secrets, plain_rows
from needleblind.processor import circuit_of, secrets_of
from needleblind.programs import Program
from needleblind.tidy import tidied
from support import opened_rows, random_bits, random_circuit, random_program, sources


def kind_and_reads(gate):
    return gate[1], tuple(sorted(wire for wire in gate[2:] if wire is not None))


class Case(unittest.TestCase):
    def tidy(self, circuit):
        """The tidied circuit has the form that it should have."""
        made = tidied(circuit)
        self.assertIsInstance(made, Circuit)
        self.assertEqual([cell[:2] for cell in made.cells()], [cell[:2] for cell in circuit.cells()])
        self.assertEqual(made.ins(), circuit.ins())
        self.assertEqual(len(made.opens()), len(circuit.opens()))
        self.assertLessEqual(len(made.gates()), len(circuit.gates()))
        alike = [kind_and_reads(gate) for gate in made.gates()]
        self.assertEqual(len(alike), len(set(alike)))
        used = set(made.opens()) | {cell[2] for cell in made.cells()}
        for gate in reversed(made.gates()):
            self.assertIn(gate[0], used)
            used.update(gate[2:])
        return made


class Tidying(Case):
    def test_all_secrets_of_small_circuits(self):
        for source in sources(120):
            secrets, ins = source.randint(0, 3), source.randint(0, 1)
            text = random_circuit(source, secrets, source.randint(0 if secrets + ins else 1, 2), ins,
                                  source.randint(0, 14), source.randint(0, 4))
            made = self.tidy(Circuit(text))
            for first in itertools.product((0, 1), repeat=secrets):
                for later in itertools.product(itertools.product((0, 1), repeat=ins), repeat=4):
                    self.assertEqual(plain_rows(made, Secrets(first, later), 4), opened_rows(text, first, later, 4))

    def test_many_beats_and_gates(self):
        fewer = 0
        for source in sources(30):
            text = random_circuit(source, 4, 3, 2, source.choice((40, 80, 150)), 8)
            circuit = Circuit(text)
            made = self.tidy(circuit)
            fewer += len(made.gates()) < len(circuit.gates())
            for _ in range(2):
                first, later = random_bits(source, 4), [random_bits(source, 2) for _ in range(64)]
                self.assertEqual(plain_rows(made, Secrets(first, later), 64), opened_rows(text, first, later, 64))
        self.assertGreater(fewer, 20)

    def gates(self, text):
        return len(self.tidy(Circuit(text)).gates())

    def test_alike_gates(self):
        head = "in a\nin b\n"
        for first, second in (("a xor b", "a xor b"), ("a xor b", "b xor a"), ("a and b", "b and a"),
                              ("not a", "not a"), ("a and a", "a and a"), ("b xor b", "b xor b")):
            self.assertEqual(self.gates(f"{head}c = {first}\nd = {second}\nopen c\nopen d\n"), 1)
        for first, second in (("a xor b", "a and b"), ("not a", "not b"), ("a and a", "a xor a"),
                              ("a and a", "b and b"), ("a xor a", "a xor b")):
            text = f"{head}c = {first}\nd = {second}\ne = c xor b\nf = d xor b\nopen e\nopen f\n"
            made = self.tidy(Circuit(text))
            for row in itertools.product((0, 1), repeat=2):
                self.assertEqual(plain_rows(made, Secrets([], [row]), 1), opened_rows(text, (), [row], 1))

    def test_gates_alike_only_after_others_have_been_made_one(self):
        text = ("in a\nin b\nc = a xor b\nd = b xor a\ne = c and d\nf = d and c\ng = c and c\nh = not e\ni = not f\n"
                "j = h xor i\nk = i xor h\nopen j\nopen k\nopen g\n")
        self.assertLessEqual(self.gates(text), 4)

    def test_cells_with_alike_from_wires(self):
        text = "in a\ncell b 0 from d\ncell c 1 from e\nd = a and b\ne = b and a\nopen c\n"
        made = self.tidy(Circuit(text))
        self.assertEqual(len(made.gates()), 1)
        self.assertEqual({cell[2] for cell in made.cells()}, {made.gates()[0][0]})

    def test_unused_gates(self):
        self.assertEqual(self.gates("in a\nb = not a\nc = b xor a\nd = c and b\nopen a\n"), 0)
        self.assertEqual(self.gates("in a\nb = not a\nc = b xor a\nd = c and b\nopen b\n"), 1)
        # A gate behind a cell is used, whoever reads the cell.
        self.assertEqual(self.gates("in a\nb = not a\ncell c 0 from b\nd = c xor c\n"), 1)
        self.assertEqual(self.gates("in a\nb = not a\nc = b xor a\nd = a xor b\ne = d and d\n"), 0)

    def test_gates_that_read_one_wire_twice(self):
        for kind in ("xor", "and"):
            text = f"secret a from b\nb = a {kind} a\nc = b {kind} b\nd = not c\nopen b\nopen c\nopen d\n"
            made = self.tidy(Circuit(text))
            for bit in (0, 1):
                self.assertEqual(plain_rows(made, Secrets([bit]), 5), opened_rows(text, [bit], [], 5))

    def test_circuits_with_little(self):
        for text in ("", "in a\n", "cell a 1 from a\n", "secret a from b\nin b\nopen a\nopen a\nopen b\n"):
            made = self.tidy(Circuit(text))
            self.assertEqual(made.gates(), [])
            self.assertEqual((made.cells(), made.opens()), (Circuit(text).cells(), Circuit(text).opens()))

    def test_twice(self):
        for source in sources(40):
            text = random_circuit(source, 2, 2, 1, source.randint(0, 30), 4)
            again = self.tidy(self.tidy(Circuit(text)))
            first, later = random_bits(source, 2), [random_bits(source, 1) for _ in range(20)]
            self.assertEqual(plain_rows(again, Secrets(first, later), 20), opened_rows(text, first, later, 20))
            self.assertTrue(tidied(Circuit(text)) == tidied(Circuit(text)))

    def test_greatest_circuits(self):
        lines = [f"secret c{at} from g{(at * 33) % 4000}" for at in range(120)] + [f"in x{at}" for at in range(16)]
        for at in range(4000):
            lines.append(f"g{at} = c{at % 120} {'and' if at % 7 else 'xor'} {f'g{at - 1}' if at else 'x3'}")
        lines += [f"open g{3999 - at}" for at in range(8)]
        text = "".join(f"{line}\n" for line in lines)
        made = self.tidy(Circuit(text))
        for source in sources(2):
            first, later = random_bits(source, 120), [random_bits(source, 16) for _ in range(3)]
            self.assertEqual(plain_rows(made, Secrets(first, later), 3), opened_rows(text, first, later, 3))

    def test_circuits_of_codes(self):
        done = 0
        for source in sources(60):
            try:
                code = Code(Program(random_program(source, source.randint(1, 6), deeds=source.randint(1, 4))))
            except TooMany:
                continue
            circuit = circuit_of(code)
            made = self.tidy(circuit)
            secrets = secrets_of(code, [source.randrange(2 ** code.width) for _ in code.program.hidden()])
            self.assertEqual(plain_rows(made, secrets, 64), plain_rows(circuit, secrets, 64))
            done += 1
        self.assertGreater(done, 40)


if __name__ == "__main__":
    unittest.main()
