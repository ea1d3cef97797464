import unittest

from needleblind.errors import BadProgram, TooMany
from needleblind.expressions import expression_text, tokens
from needleblind.programs import Program
from support import ANY_VALUES, SIGNS, raised, random_program, sources

HEAD = "width 2\nsecret a b\nword c d\nrow m 4\n"
OWN_WORDS = "width secret word row if else while end show stop half twice".split()
A = ("word", "a")
ONE = ("number", 1)


class Case(unittest.TestCase):
    def fault(self, text, line, why):
        error = raised(self, BadProgram, Program, text)
        self.assertEqual((error.line, error.why), (line, why), text)

    def line_fault(self, line, why):
        """The line has this fault, in the first line of the deeds, in a later one, and ahead of other faults."""
        self.fault(f"{HEAD}{line}\n", 5, why)
        self.fault(f"{HEAD}c = a\nshow m[c]\n{line}\n", 7, why)
        self.fault(f"{HEAD}if a\n{line}\nx = 9\n", 6, why)
        self.fault(f"{HEAD}{line}\n{line}\nshow q\n((\n", 5, why)

    def declared_fault(self, line, why):
        self.fault(f"width 2\n{line}\n", 2, why)
        self.fault(f"{HEAD}{line}\n", 5, why)
        self.fault(f"{HEAD}{line}\n{line}\nq = q\n", 5, why)

    def good(self, text):
        program = Program(text)
        self.assertEqual(Program(program.text()).text(), program.text())
        return program


class Telling(Case):
    TEXT = ("  width   3\nword c\nsecret a  b\n row m 2\nsecret  d\nrow n 8 \nword e f\n"
            "c=a+(b-1)\n m [ a+1 ]=half(c)\nif(a)<b\nshow~(a&b)\nelse\nwhile c\nc=c-1\nend\nend\n stop\n")

    def test_what_is_told(self):
        program = Program(self.TEXT)
        self.assertEqual(program.width, 3)
        self.assertEqual(program.hidden(), ["a", "b", "d"])
        self.assertEqual(program.words(), ["c", "a", "b", "d", "e", "f"])
        self.assertEqual(program.rows(), [("m", 2), ("n", 8)])
        self.assertEqual(program.deeds(), (
            ("set", "c", ("+", A, ("-", ("word", "b"), ONE))),
            ("put", "m", ("+", A, ONE), ("half", ("word", "c"))),
            ("if", ("<", A, ("word", "b")), (("show", ("~", ("&", A, ("word", "b")))),),
             (("while", ("word", "c"), (("set", "c", ("-", ("word", "c"), ONE)),)),)),
            ("stop",),
        ))
        written = ("width 3\nword c\nsecret a b\nrow m 2\nsecret d\nrow n 8\nword e f\n"
                   "c = a + (b - 1)\nm[a + 1] = half c\nif a < b\nshow ~(a & b)\nelse\nwhile c\nc = c - 1\nend\nend\n"
                   "stop\n")
        self.assertEqual(program.text(), written)
        self.assertEqual(str(program), written)
        self.assertEqual(repr(program), "Program(6 words, 17 lines)")
        self.assertEqual(repr(Program("width 1\nword a\n")), "Program(1 words, 2 lines)")
        self.assertEqual(repr(Program("width 1\n")), "Program(0 words, 1 lines)")

    def test_kinds_of_values(self):
        program = Program(self.TEXT)
        for told in (program.hidden(), program.words(), program.rows()):
            self.assertIs(type(told), list)
        for pair in program.rows():
            self.assertIs(type(pair), tuple)
        self.assertIs(type(program.deeds()), tuple)
        self.assertIs(type(Program("width 1\n").deeds()), tuple)
        self.assertEqual(Program("width 1\n").deeds(), ())

    def test_told_lists_are_new(self):
        program = Program(self.TEXT)
        program.hidden().append("x")
        program.words().clear()
        program.rows().append(("x", 2))
        self.assertEqual(program.hidden(), ["a", "b", "d"])
        self.assertEqual(len(program.words()), 6)
        self.assertEqual(program.rows(), [("m", 2), ("n", 8)])

    def test_equal(self):
        self.assertTrue(Program(self.TEXT) == Program(Program(self.TEXT).text()))
        self.assertFalse(Program(self.TEXT) != Program(Program(self.TEXT).text()))
        self.assertTrue(Program("width 1\nword a\na=(1)\n") == Program(" width 1\nword  a\na = 1\n"))
        self.assertFalse(Program("width 1\nword a\n") == Program("width 1\nword b\n"))
        self.assertFalse(Program("width 1\nword a b\n") == Program("width 1\nword a\nword b\n"))
        for value in ANY_VALUES + ["width 1\n"]:
            self.assertFalse(Program("width 1\n") == value)
            self.assertTrue(Program("width 1\n") != value)

    def test_by_name(self):
        self.assertEqual(Program(text="width 1\n").width, 1)

    def test_widths(self):
        for width in range(1, 7):
            self.assertEqual(self.good(f"width {width}\n").width, width)
        for word in ("0", "7", "8", "10", "01", "06", "a", "", "-1", "+1", "(1)", "1 1", "1a", "1" * 400):
            self.fault(f"width {word}\n", 1, "form")

    def test_hidden_and_other_words_mixed(self):
        program = self.good("width 1\nsecret z\nword y\nsecret x\nword w v\n")
        self.assertEqual(program.hidden(), ["z", "x"])
        self.assertEqual(program.words(), ["z", "y", "x", "w", "v"])

    def test_deeds_of_each_form(self):
        for line, deed in (
            ("c = a", ("set", "c", A)),
            ("c=1", ("set", "c", ONE)),
            ("m[1] = a", ("put", "m", ONE, A)),
            ("m[m[a]]=m[1]", ("put", "m", ("at", "m", A), ("at", "m", ONE))),
            ("show a", ("show", A)),
            ("show(a)", ("show", A)),
            ("stop", ("stop",)),
            ("if a\nend", ("if", A, (), None)),
            ("if a\nelse\nend", ("if", A, (), ())),
            ("if a\nstop\nelse\nend", ("if", A, (("stop",),), ())),
            ("if a\nelse\nstop\nend", ("if", A, (), (("stop",),))),
            ("if a\nstop\nend", ("if", A, (("stop",),), None)),
            ("while a\nend", ("while", A, ())),
            ("while a\nstop\nc = 1\nend", ("while", A, (("stop",), ("set", "c", ONE)))),
            ("if a\nif b\nelse\nend\nelse\nwhile a\nend\nend",
             ("if", A, (("if", ("word", "b"), (), ()),), (("while", A, ()),))),
            ("while a\nif a\nend\nend", ("while", A, (("if", A, (), None),))),
        ):
            program = self.good(f"{HEAD}{line}\n")
            self.assertEqual(program.deeds(), (deed,))
            self.assertEqual(self.good(f"{HEAD}{line}\nstop\n{line}\n").deeds(), (deed, ("stop",), deed))

    def test_random_programs(self):
        for source in sources(150):
            program = self.good(random_program(source, source.randint(1, 6)))
            self.assertEqual(program.deeds(), Program(program.text()).deeds())
            self.assertEqual(program.text(), "".join(program_lines(program)))


def program_lines(program):
    """The written lines, but for the declarations, told from the deeds anew."""
    lines = program.text().split("\n")
    declared = [line + "\n" for line in lines if line.split(" ")[0] in ("width", "secret", "word", "row")]
    return declared + [line + "\n" for line in deed_lines(program.deeds())]


def deed_lines(deeds):
    for deed in deeds:
        if deed[0] == "set":
            yield f"{deed[1]} = {expression_text(deed[2])}"
        elif deed[0] == "put":
            yield f"{deed[1]}[{expression_text(deed[2])}] = {expression_text(deed[3])}"
        elif deed[0] == "stop":
            yield "stop"
        else:
            yield f"{deed[0]} {expression_text(deed[1])}"
        if deed[0] in ("if", "while"):
            yield from deed_lines(deed[2])
            if deed[0] == "if" and deed[3] is not None:
                yield "else"
                yield from deed_lines(deed[3])
            yield "end"


class Faults(Case):
    def test_any_value(self):
        for value in ANY_VALUES + [Program("width 1\n")]:
            if not isinstance(value, str):
                self.fault(value, 0, "form")

    def test_empty_and_unended_texts(self):
        self.fault("", 1, "form")
        self.fault("\n", 1, "form")
        self.fault(" \n", 1, "form")
        self.fault("width 2", 1, "form")
        self.fault("width 2\nword c", 2, "form")
        self.fault("width 2\n ", 2, "form")
        self.fault("width 2\n\n", 2, "form")
        self.fault(f"{HEAD}c = a", 5, "form")
        self.fault(f"{HEAD}if a\nend", 6, "form")
        self.fault(f"{HEAD}c = q\nc = a", 5, "unknown")
        self.fault(f"{HEAD}c = q", 5, "form")
        self.fault("a" + " a" * 60, 1, "long")

    def test_first_line(self):
        for line in ("word c", "stop", "c = 1", "width", "width 2 2", "width2", "wid th 2", "Width 2", "width c", "word 2", "q 2", "= 2"):
            self.fault(f"{line}\nwidth 2\n", 1, "form")
        self.line_fault("width 2", "form")
        self.fault("width 2\nwidth 2\n", 2, "form")

    def test_declarations(self):
        for line in ("secret", "word", "row", "row x", "row x 3", "row x 1", "row x 0", "row x 16", "row x 04",
                     "row x 4 4", "row x y 4", "row 4 x", "row 4 4", "word 1", "word 1x", "word x 1", "word x 1y",
                     "secret x 0", "word x, y", "word x = 1", "word X", "word x Y", "secret (x)", "word x[2]",
                     "row x[4]", "row x a", "row 1x 4", "words x", "word x_y", "row if 3", "word if 3"):
            self.declared_fault(line, "form")
        for line in ("stop\nword x", "stop\nsecret x", "stop\nrow x 4", "if a\nrow x 4", "if a\nend\nword if"):
            self.fault(f"{HEAD}{line}\n", 4 + len(line.split("\n")), "form")

    def test_declared_names(self):
        for name in OWN_WORDS + ["t0", "t1", "t00", "t1234567", "t999999999", "abcdefghi", "a" * 50]:
            for line in (f"word {name}", f"secret {name}", f"word x {name}", f"word {name} x", f"word x x {name}",
                         f"row {name} 2", f"word {name} {name}"):
                self.declared_fault(line, "name")
        self.fault(f"{HEAD}word a {'a' * 9}\n", 5, "name")
        self.good("width 2\nword t tt1 t1a abcdefgh and xor open\nrow ta 2\n")

    def test_declared_twice(self):
        for line in ("word x x", "secret x y x", "word x y z y"):
            self.declared_fault(line, "twice")
        for name in ("a", "b", "c", "d", "m"):
            for line in (f"word {name}", f"secret {name}", f"row {name} 2", f"word x {name}", f"word {name} {name}"):
                self.fault(HEAD + line + "\n", 5, "twice")
                self.fault(f"{HEAD}word e\n{line}\nword if\n", 6, "twice")
        self.fault("width 2\nrow m 2\nrow m 4\n", 3, "twice")

    def test_deeds_without_a_form(self):
        for line in ("", " ", "c", "c =", "c = ", "= c", "c == a", "c = = a", "c = a b", "c = a +", "c a", "c + 1",
                     "c = a = b", "c = a == ", "1 = c", "1", "(c) = a", "c[1]", "m[1]", "m[1] =", "m[] = 1", "m[1 = a",
                     "m 1] = a", "m[1]] = a", "m[1] == a", "m[1] = a]", "m[1] a", "m[1][2] = a", "(m[1]) = a",
                     "m[1] + 1 = a", "~c = a", "half c = a", "half = 1", "twice = 1", "half[1] = 1", "t1 = 1",
                     "t1[0] = a", "abcdefghi = 1", "c = abcdefghi", "c = t1", "c = if", "c = half", "c = 01", "c = 1a",
                     "c = m[a", "c = m(a)", "c = A", "C = a", "c = a!", "c, d = a", "c = a; d = a", "show", "show a b",
                     "show = 1", "show a = 1", "shows a", "stop a", "stop 1", "stop stop", "stop = 1", "stop[1] = a",
                     "if", "if a b", "if = 1", "if a then", "if a else", "while", "while a b", "while = 1", "while end",
                     "if[1] = a", "end a", "end = 1", "else if", "else = 1", "word = 1", "row[1] = a", "row = 1",
                     "secret = a", "width = 1", "m[a] = if", "m[if] = a", "c := a", "c = a ** b", "c = a > b"):
            self.line_fault(line, "form")

    def test_else_and_end_where_they_may_not_stand(self):
        self.fault(f"{HEAD}else\n", 5, "form")
        self.fault(f"{HEAD}end\n", 5, "form")
        self.fault(f"{HEAD}stop\nelse\n", 6, "form")
        self.fault(f"{HEAD}stop\nend\n", 6, "form")
        self.fault(f"{HEAD}if a\nend\nend\n", 7, "form")
        self.fault(f"{HEAD}if a\nend\nelse\n", 7, "form")
        self.fault(f"{HEAD}if a\nelse\nelse\n", 7, "form")
        self.fault(f"{HEAD}if a\nelse\nstop\nelse\nend\n", 8, "form")
        self.fault(f"{HEAD}while a\nelse\nend\n", 6, "form")
        self.fault(f"{HEAD}if a\nwhile a\nelse\nend\nend\n", 7, "form")
        self.fault(f"{HEAD}if a\nelse\nwhile a\nend\nelse\nend\n", 9, "form")
        self.fault("width 2\nend\n", 2, "form")
        self.fault("width 2\nelse\n", 2, "form")
        self.good(f"{HEAD}if a\nelse\nif a\nelse\nend\nend\n")
        self.good(f"{HEAD}while a\nif a\nelse\nend\nend\n")

    def test_long_lines(self):
        def line_of(begin, many):
            rest = many - len(tokens(begin))
            return begin + ("a" if rest % 2 else "~a") + "+a" * ((rest - 1) // 2)
        for begin in ("c = ", "m[1] = ", "show ", "if ", "while "):
            end = "end\n" if begin in ("if ", "while ") else ""
            for many in range(55, 65):
                self.assertEqual(len(tokens(line_of(begin, many))), many)
                if many <= 60:
                    self.good(f"{HEAD}{line_of(begin, many)}\n{end}")
                else:
                    self.line_fault(line_of(begin, many), "long")
        for line in ("a " * 61, "( " * 61, "!" * 61, "stop " * 61, "word" + " x" * 60, "if " * 61, "q = 9" + "+9" * 29,
                     "c = " + "(" * 7 + "q" + ")" * 7 + "+9" * 30):
            self.line_fault(line, "long")
            self.fault(line + "\n", 1, "long")
            self.fault(line, 1, "long")
        names = [f"x{at}" for at in range(60)]
        self.good(f"width 2\nword {' '.join(names[:59])}\n")
        self.fault(f"width 2\nword {' '.join(names)}\n", 2, "long")
        self.fault("width 2" + " " * 200 + " 2" * 58 + "\n", 1, "form")
        self.fault("width 2" + " 2" * 59 + "\n", 1, "long")
        self.good("width 2" + " " * 500 + "\n")

    def test_deep_expressions(self):
        for begin in ("c = ", "m[1] = ", "show "):
            self.good(f"{HEAD}{begin}{'(' * 6}a{')' * 6}\n")
            self.good(f"{HEAD}{begin}1 + {'~' * 6}a\n")
            self.good(f"{HEAD}{begin}{'m[' * 6}1{']' * 6}\n")
            self.good(f"{HEAD}{begin}((half m[twice (a)]))\n")
            for inner in ("a", "1", "m[1]", "q", "9", "a + q", "~a"):
                self.line_fault(f"{begin}{'(' * 7}{inner}{')' * 7}", "deep")
                self.line_fault(f"{begin}{'~' * 7}({inner})", "deep")
                self.line_fault(f"{begin}{'m[' * 7}{inner}{']' * 7}", "deep")
                self.line_fault(f"{begin}((half m[twice (~({inner}))]))", "deep")
                self.line_fault(f"{begin}1 + {'(' * 7}{inner}{')' * 7} + 1", "deep")
        for word in ("if", "while"):
            self.good(f"{HEAD}{word} {'(' * 6}a{')' * 6}\nend\n")
            self.line_fault(f"{word} {'(' * 7}a{')' * 7}", "deep")

    def test_deep_indexes_ahead_of_equals(self):
        self.good(f"{HEAD}m[{'(' * 5}a{')' * 5}] = {'(' * 6}a{')' * 6}\n")
        self.line_fault(f"m[{'(' * 6}a{')' * 6}] = 1", "deep")
        self.good(f"{HEAD}m[~~~~~1] = 1\n")
        self.line_fault("m[~~~~~~1] = 1", "deep")
        self.good(f"{HEAD}{'m[' * 6}1{']' * 6} = 1\n")
        self.line_fault(f"{'m[' * 7}1{']' * 7} = 1", "deep")

    def test_deep_blocks(self):
        for words in (["if"] * 7, ["while"] * 7, ["if", "while"] * 4):
            for many in (5, 6):
                begins = "".join(f"{word} a\n" for word in words[:many])
                self.good(f"{HEAD}{begins}stop\n" + "end\n" * many)
            begins = "".join(f"{word} a\n" for word in words[:6])
            for line in ("if a", "while a", "if q", "while 9", "if q + 9"):
                self.fault(f"{HEAD}{begins}{line}\n", 11, "deep")
                self.fault(f"{HEAD}{begins}c = a\n{line}\nend\n", 12, "deep")
                self.good(f"{HEAD}{begins}end\nif a\nend\n" + "end\n" * 5)
            self.fault(f"{HEAD}{begins}if a b\n", 11, "form")
            self.fault(f"{HEAD}{begins}show q\n", 11, "unknown")
        self.fault(HEAD + "if a\nelse\n" * 6 + "if a\n", 17, "deep")

    def test_unknown_names(self):
        for line in ("q = a", "c = q", "c = a + q", "m = a", "c = m", "c = m + 1", "q[1] = a", "c[1] = a", "c = a[1]",
                     "c = q[1]", "m[q] = a", "m[m] = a", "m[1] = q", "show q", "show m", "if q", "while q", "if m",
                     "while a[1]", "show m[q]", "show m[m]", "c = ~q", "c = 9 + q", "q = 9", "q[9] = a", "c = q[9]",
                     "c = half q"):
            self.line_fault(line, "unknown")
        self.fault("width 2\nc = 1\n", 2, "unknown")
        self.fault("width 2\nshow c\nword c\n", 2, "unknown")

    def test_big_numbers(self):
        for width in range(1, 7):
            head = f"width {width}\nword c\nrow m 2\n"
            size = 2 ** width
            for form in ("c = {}", "c = c + {}", "m[{}] = c", "m[c] = {}", "show {}", "show m[{}]", "if {}", "while {}",
                         "c = ~{}", "show half (c - {})", "show {} + 0", "m[0] = m[{}]"):
                end = "end\n" if form.split(" ")[0] in ("if", "while") else ""
                self.good(f"{head}{form.format(size - 1)}\n{end}")
                for number in (size, size + 1, 100, 10 ** 9, "1" * 30, "9" * 5000):
                    self.fault(f"{head}{form.format(number)}\n{end}", 4, "big")
                    self.fault(f"{head}show c\n{form.format(number)}\n{end}show q\n", 5, "big")

    def test_several_faults_of_one_line(self):
        self.line_fault("c = q + 9", "unknown")
        self.line_fault("c = (((((((q + 9)))))))", "deep")
        self.line_fault("c = (((((((q + 9))))))", "form")
        self.line_fault("show 9 + q + 9", "unknown")
        self.line_fault("show (((((((9)))))))", "deep")
        self.declared_fault("word x x if", "name")
        self.declared_fault("word x x if 2", "form")
        self.declared_fault("word" + " x" * 60, "long")

    def test_open_blocks(self):
        for lines in (["if a"], ["while a"], ["if a", "else"], ["if a", "stop"], ["while a", "if a", "end"],
                      ["if a", "if a", "if a"], ["if a"] * 6):
            text = HEAD + "".join(f"{line}\n" for line in lines)
            self.fault(text, 4 + len(lines) + 1, "end")
        self.fault(HEAD + "if a\nshow q\n", 6, "unknown")

    def test_many_lines(self):
        self.good(HEAD + "stop\n" * 56)
        for many in (57, 58, 100, 4000):
            error = raised(self, TooMany, Program, HEAD + "stop\n" * many)
            self.assertEqual((error.what, error.many), ("lines", 4 + many))
        error = raised(self, TooMany, Program, HEAD + "stop\n" * 56 + "stop")
        self.assertEqual((error.what, error.many), ("lines", 61))
        error = raised(self, TooMany, Program, HEAD + "stop\n" * 56 + " ")
        self.assertEqual((error.what, error.many), ("lines", 61))
        error = raised(self, TooMany, Program, "\n" * 61)
        self.assertEqual((error.what, error.many), ("lines", 61))
        self.fault("\n" * 60, 1, "form")
        self.fault(HEAD + "stop\n" * 55 + "stop", 60, "form")
        self.fault(HEAD + "stop\n" * 55 + "if a\n", 61, "end")
        error = raised(self, TooMany, Program, HEAD + "stop\n" * 56 + "if a\n")
        self.assertEqual((error.what, error.many), ("lines", 61))

    def test_signs_between_names(self):
        for sign in SIGNS:
            self.good(f"{HEAD}c = a{sign}b\n")

    def test_worked_call(self):
        self.fault("width 2\nword c\nc = d\n", 3, "unknown")


if __name__ == "__main__":
    unittest.main()
