import copy
import unittest

from needleblind.expressions import expression_text, names_in, read_expression, tokens, worth
from support import ANY_VALUES, PREFIXES, SIGNS, Plain, bracketed, random_tree, sources

A = ("word", "a")
B = ("word", "b")
C = ("word", "c")
ONE = ("number", 1)
OWN_WORDS = "width secret word row if else while end show stop half twice".split()


def at(row, tree):
    return ("at", row, tree)


class Tokens(unittest.TestCase):
    def check(self, line, *expected):
        found = tokens(line)
        self.assertIs(type(found), list)
        self.assertEqual(found, list(expected))

    def test_runs_and_signs(self):
        self.check("half(a+b)&1", "half", "(", "a", "+", "b", ")", "&", "1")
        self.check("m[a1]=b|c^d<e-~f", "m", "[", "a1", "]", "=", "b", "|", "c", "^", "d", "<", "e", "-", "~", "f")
        self.check("abc123 1abc 007 abcdefghijk", "abc123", "1abc", "007", "abcdefghijk")
        self.check("9" * 100, "9" * 100)
        for sign in "=+-&|^<~[]()":
            self.check(sign, sign)
            self.check(f"a{sign}1", "a", sign, "1")

    def test_spaces(self):
        self.check("")
        self.check("    ")
        self.check("  a  +b ", "a", "+", "b")
        self.check("a b", "a", "b")
        self.check("1 2a", "1", "2a")

    def test_equals(self):
        self.check("=", "=")
        self.check("==", "==")
        self.check("===", "==", "=")
        self.check("====", "==", "==")
        self.check("=====", "==", "==", "=")
        self.check("= =", "=", "=")
        self.check("a==b=c", "a", "==", "b", "=", "c")
        self.check("<==", "<", "==")

    def test_other_characters_stand_alone(self):
        self.check("a\nb", "a", "\n", "b")
        self.check("\n\n", "\n", "\n")
        self.check("aBc", "a", "B", "c")
        self.check("AB", "A", "B")
        self.check("a_b", "a", "_", "b")
        for code in range(33, 127):
            sign = chr(code)
            if not (sign.isdigit() or sign.islower()):
                self.check(f"{sign}a", sign, "a")
        self.check("**!!", "*", "*", "!", "!")

    def test_long_lines(self):
        self.assertEqual(tokens("a+" * 1000), ["a", "+"] * 1000)


class Reading(unittest.TestCase):
    def check(self, line, expected):
        self.assertEqual(read_expression(line), expected, line)
        if expected is not None:
            self.assertIs(type(read_expression(line)), tuple)

    def test_each_form(self):
        self.check("0", ("number", 0))
        self.check("63", ("number", 63))
        self.check("999999999", ("number", 999999999))
        self.check("a", A)
        self.check("m[a]", at("m", A))
        self.check(" m [ a ] ", at("m", A))
        self.check("m[m[m[1]]]", at("m", at("m", at("m", ONE))))
        self.check("(a)", A)
        self.check("((m[(1)]))", at("m", ONE))
        self.check("~a", ("~", A))
        self.check("half a", ("half", A))
        self.check("twice a", ("twice", A))
        self.check("half(a)", ("half", A))
        self.check("half~twice 1", ("half", ("~", ("twice", ONE))))
        self.check("~~m[a]", ("~", ("~", at("m", A))))
        for sign in SIGNS:
            self.check(f"a{sign}1", (sign, A, ONE))
            self.check(f"  a  {sign}  1  ", (sign, A, ONE))

    def test_what_binds_tighter(self):
        self.check("a-b-1", ("-", ("-", A, B), ONE))
        self.check("a-(b-1)", ("-", A, ("-", B, ONE)))
        for tight in "+-":
            for other in "+-":
                self.check(f"a{tight}b{other}1", (other, (tight, A, B), ONE))
        for loose in ("&", "|", "^", "==", "<"):
            for tight in "+-":
                self.check(f"a{loose}b{tight}1", (loose, A, (tight, B, ONE)))
                self.check(f"a{tight}b{loose}1", (loose, (tight, A, B), ONE))
            for other in ("&", "|", "^", "==", "<"):
                self.check(f"a{loose}b{other}1", (other, (loose, A, B), ONE))
        for prefix in PREFIXES:
            for sign in SIGNS:
                self.check(f"{prefix} a{sign}{prefix} b", (sign, (prefix, A), (prefix, B)))
                self.check(f"{prefix}(a{sign}b)", (prefix, (sign, A, B)))

    def test_names_and_numbers(self):
        for name in ("t", "ta", "t1a", "abcdefgh", "and", "xor", "a1", "halfx", "number"):
            self.check(name, ("word", name))
            self.check(f"{name}[0]", at(name, ("number", 0)))
        for name in OWN_WORDS + ["t0", "t1", "t01", "t99", "abcdefghi", "aB", "A", "1a", "a b", "a_b"]:
            self.check(name, None)
            self.check(f"{name}[0]", None)
            self.check(f"1+{name}", None)
        for number in ("00", "01", "007", "0a", "1000000000", "9" * 20, "9" * 5000, "-1", "+1"):
            self.check(number, None)
            self.check(f"a+{number}", None)

    def test_no_form(self):
        for line in ("", " ", "a+", "+a", "a++b", "a b", "1 1", "a 1", "(a", "a)", "()", "(", ")", "(a))", "((a)",
                     "m[", "m[]", "m[a", "m]", "[a]", "m[a]]", "m(a)", "m[a][b]", "(m)[a]", "1[a]", "m[a](b)", "m[a)",
                     "(a]", "~", "half", "twice", "half half", "a~", "a~b", "a half b", "half+a", "a=b", "=", "==",
                     "a==", "a===b", "a= =b", "a<=b", "a!b", "a*b", "a\n", "\na", "a+\nb", "a>b", "show a", "if a",
                     "++a", "-+a", "&&a", "!+a", "=&b", "a+++b", "a&&b", ")+a", "a = b", "a;b", "a,b", "half = 1", "m[1] = 2"):
            self.check(line, None)

    def test_any_value(self):
        for value in ANY_VALUES:
            if not isinstance(value, str):
                self.check(value, None)
        self.check(("word", "a"), None)
        self.check([], None)

    def test_how_long(self):
        def line_of(many):
            # Prefixes change the number of tokens by one, sums by two.
            return ("~a" if many % 2 == 0 else "a") + "+a" * ((many - 1) // 2)
        for many in (59, 60):
            self.assertEqual(len(tokens(line_of(many))), many)
            self.assertIsNotNone(read_expression(line_of(many)))
        for many in (61, 62, 63):
            self.assertEqual(len(tokens(line_of(many))), many)
            self.check(line_of(many), None)
        self.check(" " * 500 + "a" + " " * 500, A)
        self.check("(" * 59, None)
        self.check("(" * 60, None)
        self.check("~" * 60, None)
        self.check("~" * 100000, None)
        self.check("(" * 100000 + ")" * 100000, None)
        self.check("a+" * 100000, None)

    def test_how_deep(self):
        for many in range(6):
            for index in range(7 - many):
                around = 6 - many - index
                line = "(" * many + "m[" * index + "half " * around + "a" + "]" * index + ")" * many
                self.assertIsNotNone(read_expression(line), line)
                self.check("~" + line, None)
                self.check("1+(" + line + ")", None)
                self.assertIsNotNone(read_expression("1+" + line + "&" + line))
        self.check("((((((a))))))", A)
        self.check("(((((((a)))))))", None)
        self.check("((((((a)))))) + (((((((a)))))))", None)
        self.check("~~~~~~a", ("~", ("~", ("~", ("~", ("~", ("~", A)))))))
        self.check("~~~~~~~a", None)
        self.check("~~~~~~~0", None)
        self.check("~~~~~m[0]", ("~", ("~", ("~", ("~", ("~", at("m", ("number", 0))))))))
        self.check("~~~~~~m[0]", None)
        self.check("m[m[m[m[m[m[1]]]]]]", at("m", at("m", at("m", at("m", at("m", at("m", ONE)))))))
        self.check("m[m[m[m[m[m[m[1]]]]]]]", None)

    def test_trees_from_brackets_everywhere(self):
        for source in sources(300):
            tree = random_tree(source, 3)
            line = bracketed(tree)
            fits = len(tokens(line)) <= 60 and around(tree) <= 6
            self.check(line, tree if fits else None)


def around(tree, depth=0):
    """How many brackets and prefixes stand around one thing, in the line with brackets everywhere."""
    if tree[0] in ("number", "word"):
        return depth
    if tree[0] == "at":
        return around(tree[2], depth + 1)
    if tree[0] in PREFIXES:
        return around(tree[1], depth + 3)
    return max(around(tree[1], depth + 1), around(tree[2], depth + 2))


class Written(unittest.TestCase):
    def check(self, tree, text):
        self.assertEqual(expression_text(tree), text)
        self.assertEqual(read_expression(text), tree)

    def test_simple_forms(self):
        self.check(("number", 0), "0")
        self.check(("number", 999999999), "999999999")
        self.check(A, "a")
        self.check(at("m", A), "m[a]")
        self.check(at("m", ("+", A, ONE)), "m[a + 1]")
        self.check(at("m", ("<", A, at("n", ("~", B)))), "m[a < n[~b]]")
        self.check(("~", A), "~a")
        self.check(("half", A), "half a")
        self.check(("twice", at("m", A)), "twice m[a]")
        self.check(("~", ("~", A)), "~~a")
        self.check(("half", ("~", ("twice", ONE))), "half ~twice 1")
        self.check(("~", ("half", A)), "~half a")
        for sign in SIGNS:
            self.check((sign, A, ONE), f"a {sign} 1")

    def test_brackets(self):
        for sign in SIGNS:
            self.check(("~", (sign, A, B)), f"~(a {sign} b)")
            self.check(("half", (sign, A, B)), f"half (a {sign} b)")
            self.check(("twice", (sign, A, B)), f"twice (a {sign} b)")
            for outer in SIGNS:
                inner = f"a {sign} b"
                left = f"({inner})" if outer in "+-" and sign not in "+-" else inner
                right = inner if outer not in "+-" and sign in "+-" else f"({inner})"
                self.check((outer, (sign, A, B), ONE), f"{left} {outer} 1")
                self.check((outer, ONE, (sign, A, B)), f"1 {outer} {right}")
                self.check((outer, ("~", A), ("half", B)), f"~a {outer} half b")
                self.check((outer, ("~", (sign, A, B)), at("m", (sign, A, B))), f"~({inner}) {outer} m[{inner}]")

    def test_some_lines(self):
        for line, text in (
            ("half(a+b)&1", "half (a + b) & 1"),
            ("(a+b)+1", "a + b + 1"),
            ("a+(b+1)", "a + (b + 1)"),
            ("(a&b)+1", "(a & b) + 1"),
            ("a&(b+1)", "a & b + 1"),
            ("a&(b&1)", "a & (b & 1)"),
            ("((a))==(b)", "a == b"),
            ("m[(a)]", "m[a]"),
            ("~(~(a))", "~~a"),
            ("(~a)", "~a"),
            ("half(half(a-b))", "half half (a - b)"),
        ):
            self.assertEqual(expression_text(read_expression(line)), text)

    def test_there_and_back_with_no_bracket_too_many(self):
        for source in sources(400):
            tree = random_tree(source, 4)
            text = expression_text(tree)
            if len(tokens(text)) > 60 or read_expression(text) is None:
                continue
            self.assertEqual(read_expression(text), tree)
            self.assertEqual(text, " ".join(text.split()))
            for first, sign in enumerate(text):
                if sign == "(":
                    last = closing(text, first)
                    without = text[:first] + text[first + 1:last] + text[last + 1:]
                    self.assertNotEqual(read_expression(without), tree, text)

    def test_long_and_deep_trees(self):
        tree = A
        for _ in range(59):
            tree = ("-", tree, B)
        self.assertEqual(expression_text(tree), "a" + " - b" * 59)
        tree = A
        for _ in range(59):
            tree = ("-", B, tree)
        self.assertEqual(expression_text(tree), "b - (" * 58 + "b - a" + ")" * 58)


def closing(text, first):
    depth = 0
    for place in range(first, len(text)):
        depth += (text[place] == "(") - (text[place] == ")")
        if depth == 0:
            return place
    raise AssertionError(text)


class NamesIn(unittest.TestCase):
    def test_each_once_ascending(self):
        self.assertEqual(names_in(("number", 3)), [])
        self.assertEqual(names_in(A), ["a"])
        self.assertEqual(names_in(at("m", ("number", 3))), ["m"])
        self.assertEqual(names_in(("+", ("word", "z"), ("+", B, ("word", "z")))), ["b", "z"])
        self.assertEqual(names_in(("half", at("z", at("b", ("~", A))))), ["a", "b", "z"])
        self.assertEqual(names_in(at("a", A)), ["a"])
        self.assertEqual(names_in(("+", ("word", "a10"), ("word", "a9"))), ["a10", "a9"])
        for sign in SIGNS:
            self.assertEqual(names_in((sign, C, at("m", B))), ["b", "c", "m"])

    def test_told_lists_are_new(self):
        found = names_in(A)
        found.append("q")
        self.assertEqual(names_in(A), ["a"])

    def test_random_trees(self):
        for source in sources(100):
            tree = random_tree(source, 5)
            expected = sorted({token for token in tokens(bracketed(tree)) if token in ("a", "b", "c", "m", "n")})
            self.assertEqual(names_in(tree), expected)


class Worths(unittest.TestCase):
    def test_each_sign_at_all_widths(self):
        for width in range(1, 7):
            size = 2 ** width
            for left in range(size):
                for right in range(size):
                    words = {"a": left, "b": right}
                    expected = {
                        "+": (left + right) % size,
                        "-": (left - right) % size,
                        "&": left & right,
                        "|": left | right,
                        "^": left ^ right,
                        "==": int(left == right),
                        "<": int(left < right),
                    }
                    for sign in SIGNS:
                        found = worth((sign, A, B), width, words, {})
                        self.assertEqual(found, expected[sign])
                        self.assertIs(type(found), int)

    def test_each_prefix_at_all_widths(self):
        for width in range(1, 7):
            size = 2 ** width
            for number in range(size):
                words = {"a": number}
                self.assertEqual(worth(("~", A), width, words, {}), size - 1 - number)
                self.assertEqual(worth(("half", A), width, words, {}), number // 2)
                self.assertEqual(worth(("twice", A), width, words, {}), number * 2 % size)
                self.assertEqual(worth(A, width, words, {}), number)
                self.assertEqual(worth(("number", number), width, {}, {}), number)

    def test_greater_numbers_words_and_items(self):
        for width in range(1, 7):
            size = 2 ** width
            for number in (size, size + 1, 3 * size - 1, 999999999):
                rest = number % size
                self.assertEqual(worth(("number", number), width, {}, {}), rest)
                self.assertEqual(worth(A, width, {"a": number}, {}), rest)
                self.assertEqual(worth(at("m", ("number", 0)), width, {}, {"m": [number]}), rest)
                for tree in (("number", number), A, at("m", ("number", 0))):
                    words, rows = {"a": number}, {"m": [number]}
                    self.assertEqual(worth(("half", tree), width, words, rows), rest // 2)
                    self.assertEqual(worth(("~", tree), width, words, rows), size - 1 - rest)
                    self.assertEqual(worth(("<", tree, ("number", rest)), width, words, rows), 0)
                    self.assertEqual(worth(("==", tree, ("number", rest)), width, words, rows), 1)

    def test_indexes_beyond_the_length(self):
        for length in range(1, 12):
            row = [5 * k + 1 for k in range(length)]
            for width in range(1, 7):
                size = 2 ** width
                for index in list(range(size)) + [size, 2 * size + 1, 999999999]:
                    expected = row[index % size % length] % size
                    self.assertEqual(worth(at("m", ("number", index)), width, {}, {"m": row}), expected)
                    self.assertEqual(worth(at("m", A), width, {"a": index}, {"m": row}), expected)

    def test_an_index_is_taken_within_the_width_first(self):
        self.assertEqual(worth(at("m", ("+", A, ONE)), 2, {"a": 3}, {"m": [1, 2, 3]}), 1)
        self.assertEqual(worth(at("m", ("number", 4)), 2, {}, {"m": [1, 2, 3]}), 1)
        self.assertEqual(worth(at("m", ("-", A, ONE)), 2, {"a": 0}, {"m": [1, 2, 3]}), 1)

    def test_deep_and_long_trees(self):
        for width in range(1, 7):
            size = 2 ** width
            long = deep = turned = A
            for _ in range(59):
                long = ("-", long, B)
                deep = ("-", B, deep)
                turned = ("~", turned)
            words = {"a": 1, "b": 1}
            self.assertEqual(worth(long, width, words, {}), (1 - 59) % size)
            self.assertEqual(worth(deep, width, words, {}), 0)
            self.assertEqual(worth(turned, width, words, {}), size - 2)
            inner = ("number", 1)
            for _ in range(59):
                inner = at("m", inner)
            self.assertEqual(worth(inner, width, {}, {"m": [1, 0]}), 0)

    def test_against_python(self):
        for source in sources(300):
            tree = random_tree(source, 4, greatest=200)
            width = source.randint(1, 6)
            words = {name: source.randint(0, 200) for name in "abc"}
            rows = {name: [source.randint(0, 200) for _ in range(source.randint(1, 9))] for name in "mn"}
            kept = copy.deepcopy((tree, words, rows))
            self.assertEqual(worth(tree, width, words, rows), Plain(width, words, rows).of(tree))
            self.assertEqual((tree, words, rows), kept)

    def test_by_name(self):
        self.assertEqual(worth(tree=A, width=2, words={"a": 7}, rows={}), 3)


if __name__ == "__main__":
    unittest.main()
