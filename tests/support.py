"""What the tests share: values of all kinds, random expressions and programs, and a check of errors."""

import random

from needleblind.errors import BadName
from needleblind.expressions import read_expression

SIGNS = ("+", "-", "&", "|", "^", "==", "<")
PREFIXES = ("~", "half", "twice")

ANY_VALUES = [
    None, True, False, 0, 1, 2, -1, 63, 999999999, "", " ", "a", "a0", "0", "01", "1a", "if", "t1", "A", "a\n",
    "a b", "abcdefgh", "abcdefghi", (), [], {}, (1,), [1], (0, 1), [0, 1], (True,), [False, 1], ["a"], ("a", "b"),
    {"a": 1}, {1: "a"}, (None,), ([1], (2,)), [[[[]]]], ((((),),),), ValueError("a"), BadName("a"),
]


def raised(case, error, call, *values, **named):
    """The error that a call raises, which must be of just this class."""
    with case.assertRaises(error) as caught:
        call(*values, **named)
    case.assertIs(type(caught.exception), error)
    return caught.exception


def random_tree(source, depth, words=("a", "b", "c"), rows=("m", "n"), greatest=63):
    """A random expression with at most so many levels below it."""
    kind = source.choice(("number", "word", "word") if depth == 0 else ("word", "at", "prefix", "sign", "sign", "sign"))
    if kind == "number":
        return ("number", source.randint(0, greatest))
    if kind == "word" or (kind == "at" and not rows):
        return ("word", source.choice(words))
    if kind == "at":
        return ("at", source.choice(rows), random_tree(source, depth - 1, words, rows, greatest))
    if kind == "prefix":
        return (source.choice(PREFIXES), random_tree(source, depth - 1, words, rows, greatest))
    left = random_tree(source, source.randint(0, depth - 1), words, rows, greatest)
    return (source.choice(SIGNS), left, random_tree(source, source.randint(0, depth - 1), words, rows, greatest))


def bracketed(tree):
    """A text of an expression that has brackets wherever they may stand."""
    if tree[0] in ("number", "word"):
        return str(tree[1])
    if tree[0] == "at":
        return f"{tree[1]}[{bracketed(tree[2])}]"
    if tree[0] in PREFIXES:
        return f"({tree[0]}({bracketed(tree[1])}))"
    return f"({bracketed(tree[1])}{tree[0]}({bracketed(tree[2])}))"


def random_program(source, width, deeds=6):
    """The text of a random program that has the form of one, perhaps with too long a code."""
    lines = [f"width {width}", "secret a b", "row m 2", "word c"]
    if source.random() < 0.5:
        lines.append("row n 4")
    rows = ("m", "n") if len(lines) == 5 else ("m",)
    lines.extend(_random_deeds(source, width, rows, deeds, 0))
    return "".join(line + "\n" for line in lines)


def _random_deeds(source, width, rows, many, depth):
    lines = []
    for _ in range(many):
        first, second = [_random_text(source, width, rows) for _ in range(2)]
        kind = source.choice(("set", "set", "put", "show", "show", "if", "else", "while", "stop"))
        if kind == "set":
            lines.append(f"{source.choice('abc')} = {first}")
        elif kind == "put":
            lines.append(f"{source.choice(rows)}[{first}] = {second}")
        elif kind == "show":
            lines.append(f"show {first}")
        elif kind == "stop":
            lines.extend(["stop"] if source.random() < 0.3 else [])
        elif depth < 3:
            lines.append(f"{'while' if kind == 'while' else 'if'} {first}")
            lines.extend(_random_deeds(source, width, rows, source.randint(0, 2), depth + 1))
            if kind == "else":
                lines.append("else")
                lines.extend(_random_deeds(source, width, rows, source.randint(0, 2), depth + 1))
            lines.append("end")
    return lines


def _random_text(source, width, rows):
    while True:
        text = bracketed(random_tree(source, source.randint(0, 2), ("a", "b", "c"), rows, 2 ** width - 1))
        # It may stand as an index ahead of an equals sign, too, within brackets more.
        if read_expression(f"m[{text}]") is not None:
            return text


def sources(many):
    """So many sources of chance, each one the same whenever the tests run."""
    return [random.Random(seed) for seed in range(many)]


class Plain:
    """Worths by the strings of bits, to compare with."""

    def __init__(self, width, words, rows):
        self.width, self.words, self.rows = width, words, rows

    def cut(self, number):
        return int(f"{number % 2 ** 40:b}".zfill(60)[-self.width:], 2)

    def bitwise(self, left, right, turn):
        pairs = zip(f"{left:060b}", f"{right:060b}")
        return int("".join("1" if turn(one == "1", other == "1") else "0" for one, other in pairs), 2)

    def of(self, tree):
        kind, *rest = tree
        if kind == "number":
            return self.cut(rest[0])
        if kind == "word":
            return self.cut(self.words[rest[0]])
        if kind == "at":
            row = self.rows[rest[0]]
            return self.cut((row * 64)[self.of(rest[1])])
        worths = [self.of(part) for part in rest]
        return self.cut({
            "~": lambda x: self.bitwise(x, 0, lambda a, b: not a),
            "half": lambda x: int("0" + f"{x:b}"[:-1], 2),
            "twice": lambda x: int(f"{x:b}0", 2),
            "+": lambda x, y: x + y,
            "-": lambda x, y: x + 2 ** 40 - y,
            "&": lambda x, y: self.bitwise(x, y, lambda a, b: a and b),
            "|": lambda x, y: self.bitwise(x, y, lambda a, b: a or b),
            "^": lambda x, y: self.bitwise(x, y, lambda a, b: a != b),
            "==": lambda x, y: int(x == y),
            "<": lambda x, y: int(x < y),
        }[kind](*worths))
