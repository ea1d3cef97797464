import unittest

from needleblind.circuits import Circuit
from needleblind.errors import BadCircuit, TooMany
from support import ANY_VALUES, raised

WORDS = "and cell coin from in not open out piece secret xor".split()
HEAD = "secret a from a\ncell b 1 from c\nin x\nc = a and b\n"
# One line of each form, with the wire that it gives as {}.
GIVING = ("secret {} from a", "cell {} 0 from a", "cell {} 1 from a", "in {}", "{} = a xor b", "{} = a and b",
          "{} = not a")
READING = ("w = {} xor a", "w = a xor {}", "w = {} and a", "w = a and {}", "w = not {}", "open {}", "w = {} and {}")


class Case(unittest.TestCase):
    def fault(self, text, line, why):
        error = raised(self, BadCircuit, Circuit, text)
        self.assertEqual((error.line, error.why), (line, why), text)

    def line_fault(self, line, why):
        """The line has this fault, behind lines without one, and ahead of others with one."""
        self.fault(f"{HEAD}{line}\n", 5, why)
        self.fault(f"{HEAD}open a\ncell zz 0 from nowhere\n{line}\n", 7, why)
        self.fault(f"{HEAD}{line}\nx x x\nopen q\n", 5, why)
        self.fault(f"{HEAD}{line}\n{line}", 5, why)

    def refused(self, what, many, text):
        error = raised(self, TooMany, Circuit, text)
        self.assertEqual((error.what, error.many), (what, many))


class Telling(Case):
    TEXT = ("in x\nsecret a from q\nopen a\np = a xor x\ncell b 1 from b\nopen p\nq = p and p\nin y\ncell d 0 from a\n"
            "r = not y\nopen p\nsecret e from x\n")

    def test_what_is_told(self):
        circuit = Circuit(self.TEXT)
        self.assertEqual(circuit.text(), self.TEXT)
        self.assertEqual(str(circuit), self.TEXT)
        self.assertEqual(repr(circuit), "Circuit(4 cells, 2 ins, 3 gates)")
        self.assertEqual(circuit.cells(), [("a", None, "q"), ("b", 1, "b"), ("d", 0, "a"), ("e", None, "x")])
        self.assertEqual([type(cell[1]) for cell in circuit.cells()], [type(None), int, int, type(None)])
        self.assertEqual(circuit.secret_cells(), ["a", "e"])
        self.assertEqual(circuit.ins(), ["x", "y"])
        self.assertEqual(circuit.gates(), [("p", "xor", "a", "x"), ("q", "and", "p", "p"), ("r", "not", "y", None)])
        self.assertEqual(circuit.opens(), ["a", "p", "p"])
        self.assertEqual(circuit.wires(), ["x", "a", "p", "b", "q", "y", "d", "r", "e"])
        for told in (circuit.cells(), circuit.secret_cells(), circuit.ins(), circuit.gates(), circuit.opens(),
                     circuit.wires()):
            self.assertIs(type(told), list)
        self.assertEqual({type(row) for row in circuit.cells() + circuit.gates()}, {tuple})
        self.assertEqual(Circuit(text=self.TEXT).text(), self.TEXT)

    def test_what_gives_a_wire(self):
        circuit = Circuit(self.TEXT)
        kinds = {"a": "cell", "b": "cell", "d": "cell", "e": "cell", "x": "in", "y": "in", "p": "xor", "q": "and", "r": "not"}
        for value in ANY_VALUES + circuit.wires() + ["z", circuit]:
            self.assertEqual(circuit.kind_of(value), kinds.get(value) if isinstance(value, str) else None)

    def test_the_empty_text(self):
        circuit = Circuit("")
        self.assertEqual((circuit.text(), str(circuit), repr(circuit)), ("", "", "Circuit(0 cells, 0 ins, 0 gates)"))
        for told in (circuit.cells(), circuit.secret_cells(), circuit.ins(), circuit.gates(), circuit.opens(),
                     circuit.wires()):
            self.assertEqual(told, [])
        self.assertFalse("a" in circuit)
        self.assertFalse("" in circuit)

    def test_told_lists_are_new(self):
        circuit = Circuit(self.TEXT)
        kept = tuple(list(told) for told in (circuit.cells(), circuit.secret_cells(), circuit.ins(), circuit.gates(),
                                             circuit.opens(), circuit.wires()))
        for told in (circuit.cells(), circuit.secret_cells(), circuit.ins(), circuit.gates(), circuit.opens(),
                     circuit.wires()):
            told.append("new")
            told.pop(0)
        self.assertEqual((circuit.cells(), circuit.secret_cells(), circuit.ins(), circuit.gates(), circuit.opens(),
                          circuit.wires()), kept)
        self.assertFalse("new" in circuit)
        self.assertTrue("x" in circuit)

    def test_in(self):
        circuit = Circuit(self.TEXT)
        for wire in circuit.wires():
            self.assertIs(wire in circuit, True)
            self.assertIs(wire not in circuit, False)
        for value in ANY_VALUES + ["", "z", "ab", "p q", "xor", "0", ("a",), ["a"], circuit]:
            if not isinstance(value, str) or value not in circuit.wires():
                self.assertIs(value in circuit, False, value)

    def test_equal(self):
        circuit = Circuit("in a\nin b\n")
        self.assertTrue(circuit == Circuit("in a\nin b\n"))
        self.assertFalse(circuit != Circuit("in a\nin b\n"))
        self.assertFalse(circuit == Circuit("in b\nin a\n"))
        self.assertFalse(circuit == Circuit(""))
        for value in ANY_VALUES + ["in a\nin b\n"]:
            self.assertFalse(circuit == value)
            self.assertTrue(circuit != value)

    def test_each_form_alone(self):
        self.assertEqual(Circuit("secret a from a\n").cells(), [("a", None, "a")])
        self.assertEqual(Circuit("cell a 0 from a\n").cells(), [("a", 0, "a")])
        self.assertEqual(Circuit("cell a 1 from a\n").cells(), [("a", 1, "a")])
        self.assertEqual(Circuit("in a\n").ins(), ["a"])
        self.assertEqual(Circuit("in a\nb = a xor a\n").gates(), [("b", "xor", "a", "a")])
        self.assertEqual(Circuit("in a\nb = a and a\n").gates(), [("b", "and", "a", "a")])
        self.assertEqual(Circuit("in a\nb = not a\n").gates(), [("b", "not", "a", None)])
        self.assertEqual(Circuit("in a\nopen a\nopen a\n").opens(), ["a", "a"])

    def test_names_that_are_names_of_no_program(self):
        for name in ("if", "t0", "half", "abcdefgh", "t1234567", "word", "coins", "a0"):
            for form in GIVING:
                circuit = Circuit(HEAD + form.format(name) + f"\nopen {name}\n")
                self.assertEqual((circuit.wires()[-1], circuit.opens()), (name, [name]))

    def test_wires_behind_from(self):
        for text in ("secret a from a\n", "secret a from b\nin b\n", "cell a 0 from b\nb = not a\n",
                     "cell a 1 from b\ncell b 0 from a\n", "in b\nsecret a from b\n"):
            self.assertEqual(len(Circuit(text).cells()[0]), 3)


class Faults(Case):
    def test_any_value(self):
        for value in ANY_VALUES + [Circuit("")]:
            if not isinstance(value, str):
                self.fault(value, 0, "form")

    def test_unended_texts(self):
        self.fault("in a", 1, "form")
        self.fault("in a\nin b", 2, "form")
        self.fault("in a\n ", 2, "form")
        self.fault("in a\nin a", 2, "form")
        self.fault("open q", 1, "form")
        self.fault("secret a from q\nin b", 2, "form")
        self.fault("in a\nin a\nin b", 2, "twice")

    def test_lines_without_a_form(self):
        for line in ("", " ", "a", "in", "open", "secret", "cell", "in y z", "open a b", "secret y", "secret y from",
                     "secret y a", "secret y to a", "secret y from a b", "cell y from a", "cell y 2 from a",
                     "cell y 00 from a", "cell y 0 from", "cell y 0 a", "cell y 0 to a", "cell y 0 from a b", "cell y",
                     "cell y 01 from a", "cell y -1 from a", "cell y a from a", "y = a", "y = a or b", "y = a xor",
                     "y = xor a", "y = not", "y = not a b", "y = a not", "y = a and b c", "y == not a", "y not a",
                     "y a xor b", "y := not a", "= not a", "y =", "=", "y = a XOR b", "y = Not a", "In y", "coin y",
                     "out a", "piece product 4", "y=not a", "y= not a", "y =not a", "y = a & b", "from a", "not a",
                     "xor a b c d", "in\ty", "secret y 0 from a", "y = a nand b", "y is a xor b", "y x not a", "sacred y from a", "call y 0 from a"):
            self.line_fault(line, "form")

    def test_spaces(self):
        for line in ("in y", "open a", "secret y from a", "cell y 0 from a", "y = a xor b", "y = not a"):
            self.line_fault(line + " ", "form")
            self.line_fault(" " + line, "form")
            for at, sign in enumerate(line):
                if sign == " ":
                    self.line_fault(line[:at] + " " + line[at:], "form")

    def test_names(self):
        for name in WORDS + ["A", "1", "0", "1a", "aB", "abcdefghi", "a_b", "=", "==", "a.", "~", "a=b", "a" * 100]:
            for form in GIVING:
                self.line_fault(form.format(name), "name")

    def test_any_word_may_stand_where_a_letter_stands(self):
        self.line_fault("in = not a", "name")
        self.line_fault("in = a xor b", "name")
        self.line_fault("secret = not a", "name")
        self.line_fault("secret from from from", "name")
        self.line_fault("cell from 0 from from", "name")
        self.line_fault("cell = 0 from a", "name")
        self.line_fault("secret = from a", "name")
        self.line_fault("= = not a", "name")
        self.line_fault("= = = xor =", "name")
        self.line_fault("open = not a", "name")
        self.line_fault("in in", "name")
        self.line_fault("in =", "name")
        self.line_fault("open open", "unknown")
        self.line_fault("open =", "unknown")
        self.line_fault("open in", "unknown")
        self.line_fault("w = not not", "unknown")
        self.line_fault("w = not =", "unknown")
        self.line_fault("w = xor xor xor", "unknown")
        self.line_fault("w = and and and", "unknown")
        self.line_fault("w = 1 and 0", "unknown")

    def test_twice(self):
        for name in ("a", "b", "c", "x"):
            for form in GIVING:
                self.line_fault(form.format(name), "twice")
        for form in GIVING:
            self.fault(f"{HEAD}{form.format('y')}\nopen y\n{form.format('y')}\n", 7, "twice")

    def test_unknown(self):
        for name in ("q", "w", "aa", "A", "0", "xor", "=", "abcdefghi"):
            for form in READING:
                self.line_fault(form.format(*[name] * form.count("{}")), "unknown")
        self.fault("open a\nin a\n", 1, "unknown")
        self.fault("b = not a\nin a\n", 1, "unknown")
        self.fault("b = not b\n", 1, "unknown")
        self.fault("in a\nb = a xor b\n", 2, "unknown")
        self.fault("secret a from a\nc = a and b\n", 2, "unknown")

    def test_several_faults_of_one_line(self):
        self.line_fault("xor = q and q", "name")
        self.line_fault("a = q and q", "twice")
        self.line_fault("a = q", "form")
        self.line_fault("in = q", "form")
        self.line_fault("secret xor from q", "name")
        self.line_fault("secret a from q", "twice")

    def test_no_wire_behind_from(self):
        for form in ("secret y from {}", "cell y 0 from {}", "cell y 1 from {}"):
            for name in ("q", "xor", "0", "=", "A", "abcdefghi"):
                line = form.format(name)
                self.fault(f"{line}\n", 1, "unknown")
                self.fault(f"{HEAD}{line}\nsecret z from q\n", 5, "unknown")
                self.fault(f"{HEAD}{line}\nin y\n", 6, "twice")
                self.fault(f"{HEAD}{line}\nopen q\n", 6, "unknown")
                self.fault(f"{HEAD}secret z from y\n{line}\n", 6, "unknown")
                self.fault(f"{HEAD}{line}\nin z", 6, "form")
        self.fault("secret a from b\ncell c 0 from d\nin d\n", 1, "unknown")
        self.fault("secret a from d\ncell c 0 from b\nin d\n", 2, "unknown")


class Bounds(Case):
    def text(self, cells=1, ins=0, gates=0, opens=0):
        lines = [f"{'secret' if at % 2 else 'cell'} s{at}{'' if at % 2 else ' 1'} from s0" for at in range(cells)]
        lines += [f"in i{at}" for at in range(ins)]
        lines += [f"g{at} = not s0" for at in range(gates)]
        lines += ["open s0"] * opens
        return "".join(f"{line}\n" for line in lines)

    def test_each_bound(self):
        for what, most in (("cells", 120), ("ins", 16), ("gates", 4000), ("opens", 8)):
            circuit = Circuit(self.text(**{what: most}))
            self.assertEqual(len(getattr(circuit, what)()), most)
            self.refused(what, most + 1, self.text(**{what: most + 1}))
            self.refused(what, most + 50, self.text(**{what: most + 50}))
        Circuit(self.text(120, 16, 4000, 8))

    def test_all_kinds_count(self):
        for line in ("g{} = s0 xor s0", "g{} = s0 and s0", "g{} = not s0"):
            lines = "".join(line.format(at) + "\n" for at in range(4000))
            self.assertEqual(len(Circuit(self.text() + lines).gates()), 4000)
            self.refused("gates", 4001, self.text() + lines + "h = not s0\n")
        for line in ("secret c{} from s0", "cell c{} 0 from s0"):
            lines = "".join(line.format(at) + "\n" for at in range(119))
            Circuit(self.text() + lines)
            self.refused("cells", 121, self.text() + lines + "secret h from s0\n")
        self.refused("opens", 9, "".join(f"in i{at}\nopen i{at}\n" for at in range(9)))

    def test_several_bounds(self):
        self.refused("cells", 121, self.text(121, 17, 4001, 9))
        self.refused("ins", 17, self.text(120, 17, 4001, 9))
        self.refused("gates", 4001, self.text(120, 16, 4001, 9))
        self.refused("opens", 9, self.text(120, 16, 4000, 9))
        self.refused("cells", 122, self.text(122, 0, 0, 9))

    def test_faults_come_first(self):
        for what, many in (("cells", 121), ("ins", 17), ("gates", 4001), ("opens", 9)):
            text = self.text(**{what: many})
            line = text.count("\n") + 1
            self.fault(text + "in s0\n", line, "twice")
            self.fault(text + "in xor\n", line, "name")
            self.fault(text + "open q\n", line, "unknown")
            self.fault(text + "q q\n", line, "form")
            self.fault(text + "in q", line, "form")
            self.fault(text + "cell q 0 from r\n", line, "unknown")


if __name__ == "__main__":
    unittest.main()
