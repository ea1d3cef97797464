import unittest

from needleblind.codes import Code, instruction_text, is_instruction, read_instruction
from needleblind.errors import NoBit, NoWord, TooMany
from needleblind.programs import Program
from support import ANY_VALUES, raised, random_program, sources

HEAD = "width 3\nsecret a b\nword c\nrow m 4\nrow n 2\n"
WITH_NAME = "load store add sub and or xor eq less".split()
ALONE = "flip half twice get put show stop".split()
JUMPS = ("jump", "jumpzero")
OPERATIONS = {"+": "add", "-": "sub", "&": "and", "|": "or", "^": "xor", "==": "eq", "<": "less"}


def code_of(*lines, head=HEAD):
    return Code(Program(head + "".join(f"{line}\n" for line in lines)))


def all_instructions():
    names = ["a", "abcdefgh", "t", "ta", "and", "t0", "t1", "t10", "t999999999"]
    rows = [(word, name) for word in WITH_NAME for name in names]
    rows += [(word,) for word in ALONE]
    rows += [("const", number) for number in range(64)]
    rows += [("index", name, length) for name in ("m", "abcdefgh", "t") for length in (2, 4, 8)]
    return rows + [(word, place) for word in JUMPS for place in range(40)]


class Instructions(unittest.TestCase):
    def test_all_forms(self):
        for row in all_instructions():
            self.assertIs(is_instruction(row), True, row)
            text = instruction_text(row)
            self.assertEqual(text, " ".join(map(str, row)))
            self.assertEqual(read_instruction(text), row)
            self.assertEqual([type(item) for item in read_instruction(text)], [type(item) for item in row])
        self.assertEqual(instruction_text(row=("index", "m", 4)), "index m 4")
        self.assertEqual(read_instruction(text="index m 4"), ("index", "m", 4))
        self.assertIs(is_instruction(value=("show",)), True)

    def test_wrong_rows(self):
        bad_names = ["", "A", "1", "if", "half", "abcdefghi", "t00", "t01", "01", "11", "t1234567890", "a b", "t1 ", " t1", 1, 0,
                     None, True, ("a",), ["a"], {}]
        for name in bad_names:
            for word in WITH_NAME:
                self.assertIs(is_instruction((word, name)), False, name)
            self.assertIs(is_instruction(("index", name, 4)), False, name)
        self.assertIs(is_instruction(("index", "t0", 4)), False)
        self.assertIs(is_instruction(("index", "t999", 4)), False)
        for length in (0, 1, 3, 5, 6, 7, 9, 16, -2, True, None, "4", (4,), [4]):
            self.assertIs(is_instruction(("index", "m", length)), False, length)
        for number in (-1, 64, 100, 999999999, True, False, None, "1", (1,), [1]):
            self.assertIs(is_instruction(("const", number)), False, number)
        for place in (-1, 40, 41, 63, True, False, None, "1", (1,), [1]):
            for word in JUMPS:
                self.assertIs(is_instruction((word, place)), False, place)

    def test_wrong_numbers_of_items(self):
        for row in all_instructions():
            self.assertIs(is_instruction(row[:-1]), False, row)
            self.assertIs(is_instruction((*row, 1)), False, row)
            self.assertIs(is_instruction((*row, "a")), False, row)
            self.assertIs(is_instruction(list(row)), False, row)
            self.assertIs(is_instruction((row,)), False, row)
            self.assertIs(is_instruction(instruction_text(row)), False, row)

    def test_any_value(self):
        for value in ANY_VALUES:
            self.assertIs(is_instruction(value), False)
            self.assertIs(is_instruction((value,)), False)
            self.assertIs(is_instruction((value, "a")), False)
            self.assertIsNone(read_instruction(value))
        for word in ("Load", "jumpone", "nop", "", "mul", "jumpZero", "not"):
            self.assertIs(is_instruction((word,)), False)
            self.assertIs(is_instruction((word, "a")), False)
            self.assertIs(is_instruction((word, 1)), False)
        self.assertIsNone(read_instruction(("show",)))

    def test_wrong_texts(self):
        for row in all_instructions():
            text = instruction_text(row)
            for wrong in (" " + text, text + " ", text.replace(" ", "  "), text + "\n", text + " 1", text.upper()):
                if wrong != text:
                    self.assertIsNone(read_instruction(wrong), wrong)
        for text in ("", " ", "const", "const 64", "const 00", "const 01", "const -1", "const +1", "const a",
                     "const 1000000000", "const " + "9" * 5000, "jump 40", "jump 039", "jump", "jumpzero a", "load",
                     "load 1", "load t01", "load if", "load a b", "index m", "index m 3", "index m 04", "index t1 4",
                     "index 4 m", "show a", "stop 1", "add", "add 1", "const\n1", "const 1\n"):
            self.assertIsNone(read_instruction(text), text)


class Laying(unittest.TestCase):
    def check(self, lines, *texts, temps=0):
        code = code_of(*lines)
        self.assertEqual([instruction_text(row) for row in code.rows()], [*texts, "stop"])
        self.assertEqual(code.memory()[9:], [(f"t{at}", 0) for at in range(temps)])

    def test_expressions(self):
        self.check(["show 5"], "const 5", "show")
        self.check(["show a"], "load a", "show")
        self.check(["show m[a]"], "load a", "index m 4", "get", "show")
        self.check(["show n[m[1]]"], "const 1", "index m 4", "get", "index n 2", "get", "show")
        self.check(["show ~half twice a"], "load a", "twice", "half", "flip", "show")
        for sign, word in OPERATIONS.items():
            self.check([f"show a {sign} b"], "load a", f"{word} b", "show")
            self.check([f"show 1 {sign} b"], "const 1", f"{word} b", "show")
            self.check([f"show a {sign} 1"], "const 1", "store t0", "load a", f"{word} t0", "show", temps=1)
            self.check([f"show a {sign} m[b]"], "load b", "index m 4", "get", "store t0", "load a", f"{word} t0", "show",
                       temps=1)
            self.check([f"show a {sign} ~b"], "load b", "flip", "store t0", "load a", f"{word} t0", "show", temps=1)
            self.check([f"show ~(a {sign} b)"], "load a", f"{word} b", "flip", "show")

    def test_temps_that_nest(self):
        self.check(["show a - (b - 1)"], "const 1", "store t0", "load b", "sub t0", "store t0", "load a", "sub t0",
                   "show", temps=1)
        self.check(["show (a - 1) - 2"], "const 2", "store t0", "const 1", "store t1", "load a", "sub t1", "sub t0",
                   "show", temps=2)
        self.check(["show a - 1 - 2 - 3"], "const 3", "store t0", "const 2", "store t1", "const 1", "store t2",
                   "load a", "sub t2", "sub t1", "sub t0", "show", temps=3)
        self.check(["show m[a - 1] - 2"], "const 2", "store t0", "const 1", "store t1", "load a", "sub t1",
                   "index m 4", "get", "sub t0", "show", temps=2)
        self.check(["show a - 1 - b"], "const 1", "store t0", "load a", "sub t0", "sub b", "show", temps=1)
        self.check(["show ~(a - 1) - (b + 2)"], "const 2", "store t0", "load b", "add t0", "store t0", "const 1",
                   "store t1", "load a", "sub t1", "flip", "sub t0", "show", temps=2)

    def test_deeds(self):
        self.check([])
        self.check(["stop"], "stop")
        self.check(["c = a"], "load a", "store c")
        self.check(["c = a + 1"], "const 1", "store t0", "load a", "add t0", "store c", temps=1)
        self.check(["m[a] = b"], "load b", "store t0", "load a", "index m 4", "load t0", "put", temps=1)
        self.check(["n[a + 1] = b + 2"], "const 2", "store t0", "load b", "add t0", "store t0", "const 1", "store t1",
                   "load a", "add t1", "index n 2", "load t0", "put", temps=2)
        self.check(["m[0] = m[1]"], "const 1", "index m 4", "get", "store t0", "const 0", "index m 4", "load t0", "put",
                   temps=1)

    def test_ifs_and_whiles(self):
        self.check(["if a", "end"], "load a", "jumpzero 2")
        self.check(["if a", "show b", "end"], "load a", "jumpzero 4", "load b", "show")
        self.check(["if a", "else", "end"], "load a", "jumpzero 3", "jump 3")
        self.check(["if a", "show b", "else", "end"], "load a", "jumpzero 5", "load b", "show", "jump 5")
        self.check(["if a", "else", "show b", "end"], "load a", "jumpzero 3", "jump 5", "load b", "show")
        self.check(["if a", "show b", "else", "show c", "end", "show a"], "load a", "jumpzero 5", "load b", "show",
                   "jump 7", "load c", "show", "load a", "show")
        self.check(["while a", "end"], "load a", "jumpzero 3", "jump 0")
        self.check(["show 1", "while a - 1", "a = 1", "end", "show 2"], "const 1", "show", "const 1", "store t0",
                   "load a", "sub t0", "jumpzero 10", "const 1", "store a", "jump 2", "const 2", "show", temps=1)
        self.check(["while a", "if b", "stop", "else", "while c", "end", "end", "end"], "load a", "jumpzero 10",
                   "load b", "jumpzero 6", "stop", "jump 9", "load c", "jumpzero 9", "jump 6", "jump 0")

    def test_the_sixth_example(self):
        code = Code(Program("width 2\nsecret a b\nword c\nc = a - b\nif c == 0\nshow 1\nelse\nshow 1\nend\n"))
        self.assertEqual(code.rows(), [
            ("load", "a"), ("sub", "b"), ("store", "c"), ("const", 0), ("store", "t0"), ("load", "c"), ("eq", "t0"),
            ("jumpzero", 11), ("const", 1), ("show",), ("jump", 13), ("const", 1), ("show",), ("stop",)])
        self.assertEqual(code.text(), "load a\nsub b\nstore c\nconst 0\nstore t0\nload c\neq t0\njumpzero 11\nconst 1\n"
                                      "show\njump 13\nconst 1\nshow\nstop\n")
        self.assertEqual(repr(code), "Code(14 instructions)")
        self.assertEqual(len(code), 14)
        self.assertEqual(code.memory(), [("a", 0), ("b", 0), ("c", 0), ("t0", 0)])

    def test_random_programs_against_labels(self):
        checked = 0
        for source in sources(300):
            program = Program(random_program(source, source.randint(1, 6), deeds=2))
            expected = Labels(program)
            try:
                code = Code(program)
            except TooMany as error:
                words = len(program.words()) + sum(length for _, length in program.rows()) + expected.temps
                wrong = ("words", words) if words > 16 else ("instructions", len(expected.rows))
                self.assertEqual((error.what, error.many), wrong)
                self.assertTrue(words > 16 or len(expected.rows) > 40)
                continue
            checked += 1
            self.assertEqual([instruction_text(row) for row in code.rows()], expected.rows)
            words = len(program.words()) + sum(length for _, length in program.rows())
            self.assertEqual(code.memory()[words:], [(f"t{at}", 0) for at in range(expected.temps)])
            for row in code.rows():
                self.assertTrue(is_instruction(row), row)
        self.assertGreater(checked, 50)


class Labels:
    """The scheme with labels for the places of jumps, to compare with."""

    def __init__(self, program):
        self.lengths = dict(program.rows())
        self.lines = []
        self.labels = 0
        self.deeds(program.deeds())
        self.lines.append("stop")
        places, texts = {}, []
        for line in self.lines:
            if line.startswith(":"):
                places[line[1:]] = str(len(texts))
            else:
                texts.append(line)
        self.rows = [" ".join(places.get(word, word) for word in text.split()) for text in texts]
        stored = [int(text[7:]) for text in texts if text.startswith("store t") and text[7:].isdigit()]
        self.temps = max(stored, default=-1) + 1

    def label(self):
        self.labels += 1
        return f"@{self.labels}"

    def deeds(self, deeds):
        for deed in deeds:
            if deed[0] == "set":
                self.lines += self.code(deed[2], 0) + [f"store {deed[1]}"]
            elif deed[0] == "put":
                self.lines += self.code(deed[3], 0) + ["store t0"] + self.code(deed[2], 1)
                self.lines += [f"index {deed[1]} {self.lengths[deed[1]]}", "load t0", "put"]
            elif deed[0] == "show":
                self.lines += self.code(deed[1], 0) + ["show"]
            elif deed[0] == "stop":
                self.lines.append("stop")
            elif deed[0] == "while":
                start, behind = self.label(), self.label()
                self.lines += [f":{start}"] + self.code(deed[1], 0) + [f"jumpzero {behind}"]
                self.deeds(deed[2])
                self.lines += [f"jump {start}", f":{behind}"]
            else:
                other, behind = self.label(), self.label()
                self.lines += self.code(deed[1], 0) + [f"jumpzero {other}"]
                self.deeds(deed[2])
                self.lines += ([] if deed[3] is None else [f"jump {behind}"]) + [f":{other}"]
                self.deeds(deed[3] or ())
                self.lines.append(f":{behind}")

    def code(self, tree, temp):
        kind = tree[0]
        if kind == "number":
            return [f"const {tree[1]}"]
        if kind == "word":
            return [f"load {tree[1]}"]
        if kind == "at":
            return self.code(tree[2], temp) + [f"index {tree[1]} {self.lengths[tree[1]]}", "get"]
        if len(tree) == 2:
            return self.code(tree[1], temp) + [{"~": "flip"}.get(kind, kind)]
        if tree[2][0] == "word":
            return self.code(tree[1], temp) + [f"{OPERATIONS[kind]} {tree[2][1]}"]
        right = self.code(tree[2], temp) + [f"store t{temp}"]
        return right + self.code(tree[1], temp + 1) + [f"{OPERATIONS[kind]} t{temp}"]


class Telling(unittest.TestCase):
    def test_memory_and_addresses(self):
        code = Code(Program("width 2\nword d\nrow n 2\nsecret b\nrow m 4\nword c\nc = b - 1 - 2\n"))
        memory = [("d", 0), ("b", 0), ("c", 0), ("n", 0), ("n", 1), ("m", 0), ("m", 1), ("m", 2), ("m", 3), ("t0", 0),
                  ("t1", 0)]
        self.assertEqual(code.memory(), memory)
        self.assertEqual((code.address("m"), code.address("n")), (5, 3))
        for address, (name, at) in enumerate(memory):
            self.assertEqual(code.address(name, at), address)
            self.assertEqual(code.address(name=name, at=at), address)
        for value in ANY_VALUES:
            for name in ("d", "b", "c", "t0", "t1"):
                self.assertEqual(code.address(name, value), memory.index((name, 0)))
            if not (type(value) is int and 0 <= value < 4):
                self.assertIs(raised(self, NoBit, code.address, "m", value).at, value)
            if not isinstance(value, str) or value != "t1":
                self.assertIs(raised(self, NoWord, code.address, value).name, value)
                self.assertIs(raised(self, NoWord, code.address, value, -1).name, value)
        for at in (2, 3, -1, True, False, None, "0", [0]):
            self.assertIs(raised(self, NoBit, code.address, "n", at).at, at)
        for name in ("t2", "t00", "t", "q", "m[0]", code):
            self.assertIs(raised(self, NoWord, code.address, name).name, name)

    def test_attributes_and_kinds(self):
        program = Program(HEAD + "show a\n")
        code = Code(program=program)
        self.assertEqual(code.program, program)
        self.assertEqual(code.width, 3)
        self.assertIs(type(code.rows()), list)
        self.assertIs(type(code.memory()), list)
        self.assertEqual({type(row) for row in code.rows() + code.memory()}, {tuple})
        self.assertEqual(str(code), "load a\nshow\nstop\n")
        self.assertEqual(code.text(), str(code))
        self.assertEqual((len(code), repr(code)), (3, "Code(3 instructions)"))
        self.assertEqual(repr(Code(Program("width 1\n"))), "Code(1 instructions)")
        self.assertEqual(Code(Program("width 1\n")).memory(), [])

    def test_told_lists_are_new(self):
        code = code_of("show m[a]")
        rows, memory = list(code.rows()), list(code.memory())
        code.rows().clear()
        code.memory().append(("x", 0))
        self.assertEqual((code.rows(), code.memory()), (rows, memory))
        self.assertEqual(len(code), 5)

    def test_equal(self):
        self.assertTrue(code_of("c=(a)") == code_of("c = a"))
        self.assertFalse(code_of("c=(a)") != code_of("c = a"))
        self.assertFalse(code_of("c = a") == code_of("c = b"))
        self.assertFalse(code_of("stop") == code_of())
        same_rows = [Code(Program(f"width {width}\n")) for width in (1, 2)]
        self.assertEqual(same_rows[0].rows(), same_rows[1].rows())
        self.assertFalse(same_rows[0] == same_rows[1])
        for value in ANY_VALUES + [same_rows[0].program, same_rows[0].text(), same_rows[0].rows()]:
            self.assertFalse(same_rows[0] == value)
            self.assertTrue(same_rows[0] != value)


class Bounds(unittest.TestCase):
    def words(self, many, *lines):
        names = " ".join(f"x{at}" for at in range(many))
        return code_of(*lines, head=f"width 2\nword {names}\n")

    def refused(self, what, many, make, *values, **named):
        error = raised(self, TooMany, make, *values, **named)
        self.assertEqual((error.what, error.many), (what, many))

    def test_words(self):
        self.assertEqual(len(self.words(16).memory()), 16)
        self.refused("words", 17, self.words, 17)
        self.refused("words", 30, self.words, 30)
        self.assertEqual(len(self.words(15, "show x0 + 1").memory()), 16)
        self.refused("words", 17, self.words, 16, "show x0 + 1")
        self.assertEqual(len(self.words(14, "show x0 + 1 + 2").memory()), 16)
        self.refused("words", 17, self.words, 15, "show x0 + 1 + 2")
        self.assertEqual(len(self.words(16, "show x0 + x1").memory()), 16)
        self.assertEqual(len(code_of(head="width 1\nrow m 8\nrow n 8\n").memory()), 16)
        self.refused("words", 17, code_of, head="width 1\nrow m 8\nrow n 8\nword a\n")
        self.refused("words", 17, code_of, "m[0] = 0", head="width 1\nrow m 8\nrow n 8\n")
        self.refused("words", 24, code_of, head="width 1\nrow m 8\nrow n 8\nrow o 8\n")

    def test_instructions(self):
        self.assertEqual(len(code_of(*["show a"] * 19, "stop")), 40)
        self.refused("instructions", 41, code_of, *["show a"] * 20)
        self.refused("instructions", 41, code_of, *["show a"] * 19, "stop", "stop")
        self.refused("instructions", 101, code_of, *["show a"] * 50)
        self.assertEqual(len(code_of(*["stop"] * 39)), 40)
        self.refused("instructions", 41, code_of, *["stop"] * 40)
        code = code_of("while a", *["show a"] * 18, "end")
        self.assertEqual((len(code), code.rows()[1]), (40, ("jumpzero", 39)))

    def test_both(self):
        self.refused("words", 17, self.words, 17, *["stop"] * 45)
        self.refused("words", 17, self.words, 16, *["show x0 + 1"] * 45)
        self.refused("instructions", 46, self.words, 16, *["stop"] * 45)


if __name__ == "__main__":
    unittest.main()
