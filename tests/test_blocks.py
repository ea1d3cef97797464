import unittest

from needleblind.blocks import block_lines
from needleblind.circuits import Circuit
from needleblind.errors import BadName, NotAlike, NotBlock
from needleblind.plain import Secrets, plain_rows
from support import raised, random_bits, random_circuit, sources

ADDER = "in a\nin b\nin c\nd = a xor b\nsum = d xor c\ne = d and c\nf = a and b\ncarry = e xor f\nopen sum\nopen carry\n"


class Putting(unittest.TestCase):
    def test_lines_and_wires(self):
        told = block_lines(Circuit(ADDER), "p", ["x", "y", "z"])
        self.assertEqual(told, (
            ["pd = x xor y", "psum = pd xor z", "pe = pd and z", "pf = x and y", "pcarry = pe xor pf"],
            ["psum", "pcarry"]))
        self.assertEqual([type(told), type(told[0]), type(told[1])], [tuple, list, list])
        self.assertEqual(block_lines(block=Circuit(ADDER), prefix="p", wires=("x", "y", "z")), told)

    def test_empty_prefix(self):
        self.assertEqual(block_lines(Circuit("in a\nb = not a\nopen b\nopen a\nopen b\n"), "", ["q"]),
                         (["b = not q"], ["b", "q", "b"]))

    def test_without_gates_or_ins(self):
        self.assertEqual(block_lines(Circuit(""), "p", []), ([], []))
        self.assertEqual(block_lines(Circuit("in a\nin b\n"), "p", ["x", "y"]), ([], []))
        self.assertEqual(block_lines(Circuit("in a\nin b\nopen b\nopen a\n"), "p", ["x", "y"]), ([], ["y", "x"]))
        self.assertEqual(block_lines(Circuit("in a\nb = a and a\n"), "p", ["x"]), (["pb = x and x"], []))

    def test_one_wire_for_several_ins(self):
        self.assertEqual(block_lines(Circuit(ADDER), "p", ["x", "x", "x"])[0][:2], ["pd = x xor x", "psum = pd xor x"])

    def test_wires_that_have_the_names_of_ins_and_gates(self):
        # Each in is replaced once: what is told for it is not replaced again.
        block = Circuit("in a\nin b\nd = a and b\ne = d xor a\nopen e\nopen b\n")
        self.assertEqual(block_lines(block, "p", ["b", "a"]), (["pd = b and a", "pe = pd xor b"], ["pe", "a"]))
        self.assertEqual(block_lines(block, "p", ["e", "d"]), (["pd = e and d", "pe = pd xor e"], ["pe", "d"]))

    def test_ins_between_the_gates(self):
        block = Circuit("in a\nb = not a\nopen b\nin c\nd = b xor c\nin e\nopen e\n")
        self.assertEqual(block_lines(block, "p", ["x", "y", "z"]), (["pb = not x", "pd = pb xor y"], ["pb", "z"]))

    def test_wires_are_not_looked_at(self):
        block = Circuit("in a\nb = not a\nopen a\n")
        self.assertEqual(block_lines(block, "p", ["No Wire"]), (["pb = not No Wire"], ["No Wire"]))

    def test_beside_the_block_itself(self):
        for source in sources(80):
            ins = source.randint(1, 4)
            text = random_circuit(source, 0, 0, ins, source.randint(0, 8), source.randint(0, 4))
            names = [f"w{at}" for at in range(ins)]
            lines, wires = block_lines(Circuit(text), "q", names)
            # Put in a second time, on the wires of the first.
            fed = [source.choice(wires + names) for _ in range(ins)]
            more, others = block_lines(Circuit(text), "r", fed)
            outer = [f"in {name}" for name in names] + lines + more + [f"open {wire}" for wire in wires + others]
            circuit = Circuit("".join(f"{line}\n" for line in outer))
            self.assertEqual(len(lines), len(Circuit(text).gates()))
            for _ in range(4):
                row = random_bits(source, ins)
                first = plain_rows(Circuit(text), Secrets([], [row]), 1)[0]
                bits = dict(zip(names, row)) | dict(zip(wires, first))
                second = plain_rows(Circuit(text), Secrets([], [[bits[wire] for wire in fed]]), 1)[0]
                self.assertEqual(plain_rows(circuit, Secrets([], [row]), 1), [first + second])

    def test_what_is_passed_and_told(self):
        block, wires = Circuit(ADDER), ["x", "y", "z"]
        told = block_lines(block, "p", wires)
        kept = list(told[0]), list(told[1])
        self.assertEqual((wires, block.text()), (["x", "y", "z"], ADDER))
        told[0].append("more")
        told[1].clear()
        self.assertEqual(block_lines(block, "p", wires), kept)
        wires[0] = "q"
        self.assertEqual(kept[0][0], "pd = x xor y")


class Refusing(unittest.TestCase):
    def test_cells(self):
        for text in ("secret a from a\n", "cell a 0 from a\n", "in x\ncell a 1 from b\nb = not a\nopen b\n"):
            for prefix, wires in (("p", ["x"]), ("", []), ("TOO LONG A PREFIX", ["x", "y"])):
                raised(self, NotBlock, block_lines, Circuit(text), prefix, wires)

    def test_wrong_numbers_of_wires(self):
        for many in (0, 1, 2, 4, 20):
            for prefix in ("p", "", "TOO LONG A PREFIX"):
                error = raised(self, NotAlike, block_lines, Circuit(ADDER), prefix, ["x"] * many)
                self.assertEqual(error.what, "ins")
        self.assertEqual(raised(self, NotAlike, block_lines, Circuit(""), "", ["x"]).what, "ins")

    def test_names(self):
        def refused(text, prefix, name):
            wires = ["x"] * text.count("in ")
            self.assertEqual(raised(self, BadName, block_lines, Circuit(text), prefix, wires).value, name)
        refused(ADDER, "pppp", "ppppcarry")
        refused(ADDER, "pppppppp", "ppppppppd")
        refused(ADDER, "P", "Pd")
        refused(ADDER, "0", "0d")
        refused(ADDER, " ", " d")
        refused(ADDER, "p_", "p_d")
        refused("in a\nq = not a\nr = not a\nt = not a\nor = not a\n", "x", "xor")
        refused("in a\nd = not a\nut = not a\n", "o", "out")
        refused("in a\nd = not a\not = not a\nbc = not a\n", "n", "not")
        refused("in a\nt = not a\n", "no", "not")
        refused("in a\nabcdefgh = not a\nb = not a\n", "p", "pabcdefgh")
        # All other prefixes will do, also one that is an own word itself.
        self.assertEqual(block_lines(Circuit("in a\nd = not a\n"), "not", ["x"])[0], ["notd = not x"])
        self.assertEqual(block_lines(Circuit("in a\nd = not a\n"), "abcdefg", ["x"])[0], ["abcdefgd = not x"])
        # Without gates the prefix stands nowhere.
        self.assertEqual(block_lines(Circuit("in a\nopen a\n"), "NO PREFIX", ["x"]), ([], ["x"]))


if __name__ == "__main__":
    unittest.main()
