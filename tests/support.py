"""What the tests share: values of all kinds, random expressions and programs, and a check of errors."""

import random

from needleblind.errors import BadName
from needleblind.expressions import read_expression

SIGNS = ("+", "-", "&", "|", "^", "==", "<")
PREFIXES = ("~", "half", "twice")

ANY_VALUES = [
    None, True, False, 0, 1, 2, -1, 63, 999999999, "", " ", "a", "a0", "0", "01", "1a", "if", "t1", "A", "a\n",
    "a b", "abcdefgh", "abcdefghi", (), [], {}, (1,), [1], (0, 1), [0, 1], (True,), [False, 1], ["a"], ("a", "b"),
    {"a": 1}, {1: "a"}, (None,), ([1], (2,)), [[[[]]]], ((((),),),), ValueError("a"), BadName("a"),
]


def raised(case, error, call, *values, **named):
    """The error that a call raises, which must be of just this class."""
    with case.assertRaises(error) as caught:
        call(*values, **named)
    case.assertIs(type(caught.exception), error)
    return caught.exception


def random_tree(source, depth, words=("a", "b", "c"), rows=("m", "n"), greatest=63):
    """A random expression with at most so many levels below it."""
    kind = source.choice(("number", "word", "word") if depth == 0 else ("word", "at", "prefix", "sign", "sign", "sign"))
    if kind == "number":
        return ("number", source.randint(0, greatest))
    if kind == "word" or (kind == "at" and not rows):
        return ("word", source.choice(words))
    if kind == "at":
        return ("at", source.choice(rows), random_tree(source, depth - 1, words, rows, greatest))
    if kind == "prefix":
        return (source.choice(PREFIXES), random_tree(source, depth - 1, words, rows, greatest))
    left = random_tree(source, source.randint(0, depth - 1), words, rows, greatest)
    return (source.choice(SIGNS), left, random_tree(source, source.randint(0, depth - 1), words, rows, greatest))


def bracketed(tree):
    """A text of an expression that has brackets wherever they may stand."""
    if tree[0] in ("number", "word"):
        return str(tree[1])
    if tree[0] == "at":
        return f"{tree[1]}[{bracketed(tree[2])}]"
    if tree[0] in PREFIXES:
        return f"({tree[0]}({bracketed(tree[1])}))"
    return f"({bracketed(tree[1])}{tree[0]}({bracketed(tree[2])}))"


def random_program(source, width, deeds=6):
    """The text of a random program that has the form of one, perhaps with too long a code."""
    lines = [f"width {width}", "secret a b", "row m 2", "word c"]
    if source.random() < 0.5:
        lines.append("row n 4")
    rows = ("m", "n") if len(lines) == 5 else ("m",)
    lines.extend(_random_deeds(source, width, rows, deeds, 0))
    return "".join(line + "\n" for line in lines)


def _random_deeds(source, width, rows, many, depth):
    lines = []
    for _ in range(many):
        first, second = [_random_text(source, width, rows) for _ in range(2)]
        kind = source.choice(("set", "set", "put", "show", "show", "if", "else", "while", "stop"))
        if kind == "set":
            lines.append(f"{source.choice('abc')} = {first}")
        elif kind == "put":
            lines.append(f"{source.choice(rows)}[{first}] = {second}")
        elif kind == "show":
            lines.append(f"show {first}")
        elif kind == "stop":
            lines.extend(["stop"] if source.random() < 0.3 else [])
        elif depth < 3:
            lines.append(f"{'while' if kind == 'while' else 'if'} {first}")
            lines.extend(_random_deeds(source, width, rows, source.randint(0, 2), depth + 1))
            if kind == "else":
                lines.append("else")
                lines.extend(_random_deeds(source, width, rows, source.randint(0, 2), depth + 1))
            lines.append("end")
    return lines


def _random_text(source, width, rows):
    while True:
        text = bracketed(random_tree(source, source.randint(0, 2), ("a", "b", "c"), rows, 2 ** width - 1))
        # It may stand as an index ahead of an equals sign, too, within brackets more.
        if read_expression(f"m[{text}]") is not None:
            return text


def sources(many):
    """So many sources of chance, each one the same whenever the tests run."""
    return [random.Random(seed) for seed in range(many)]


class Plain:
    """Worths by the strings of bits, to compare with."""

    def __init__(self, width, words, rows):
        self.width, self.words, self.rows = width, words, rows

    def cut(self, number):
        return int(f"{number % 2 ** 40:b}".zfill(60)[-self.width:], 2)

    def bitwise(self, left, right, turn):
        pairs = zip(f"{left:060b}", f"{right:060b}")
        return int("".join("1" if turn(one == "1", other == "1") else "0" for one, other in pairs), 2)

    def of(self, tree):
        kind, *rest = tree
        if kind == "number":
            return self.cut(rest[0])
        if kind == "word":
            return self.cut(self.words[rest[0]])
        if kind == "at":
            row = self.rows[rest[0]]
            return self.cut((row * 64)[self.of(rest[1])])
        worths = [self.of(part) for part in rest]
        return self.cut({
            "~": lambda x: self.bitwise(x, 0, lambda a, b: not a),
            "half": lambda x: int("0" + f"{x:b}"[:-1], 2),
            "twice": lambda x: int(f"{x:b}0", 2),
            "+": lambda x, y: x + y,
            "-": lambda x, y: x + 2 ** 40 - y,
            "&": lambda x, y: self.bitwise(x, y, lambda a, b: a and b),
            "|": lambda x, y: self.bitwise(x, y, lambda a, b: a or b),
            "^": lambda x, y: self.bitwise(x, y, lambda a, b: a != b),
            "==": lambda x, y: int(x == y),
            "<": lambda x, y: int(x < y),
        }[kind](*worths))


def is_row(value, many=None):
    """Whether any value is a list or tuple of bits, asked without the package."""
    if type(value) not in (list, tuple) or (many is not None and len(value) != many):
        return False
    return all(type(bit) is int and bit in (0, 1) for bit in value)


def random_bits(source, many):
    """A row of so many bits."""
    return tuple(source.randrange(2) for _ in range(many))


def random_circuit(source, secrets=2, cells=1, ins=1, gates=6, opens=2):
    """The text of a random circuit with so many of each; its lines have a random order that may stand."""
    heads = [("secret", f"s{at}") for at in range(secrets)] + [("cell", f"c{at}") for at in range(cells)]
    heads += [("in", f"x{at}") for at in range(ins)] + [("gate", f"g{at}") for at in range(gates)]
    heads += [("open", "")] * opens
    source.shuffle(heads)
    # What gives a wire without reading one stands ahead of all others, or is at least the first line.
    giving = [head for head in heads if head[0] not in ("gate", "open")]
    rest = [head for head in heads if head[0] in ("gate", "open")]
    if giving and source.random() < 0.7:
        rest.extend(giving[1:])
        giving = giving[:1]
        source.shuffle(rest)
    heads = giving + rest
    wires = [name for kind, name in heads if kind != "open"]
    lines, known = [], []
    for kind, name in heads:
        near = known[-4:] if source.random() < 0.5 else known
        if kind == "open":
            lines.append(f"open {source.choice(known)}")
            continue
        if kind == "secret":
            lines.append(f"secret {name} from {source.choice(wires)}")
        elif kind == "cell":
            lines.append(f"cell {name} {source.randrange(2)} from {source.choice(wires)}")
        elif kind == "in":
            lines.append(f"in {name}")
        else:
            a, b, gate = source.choice(near), source.choice(near), source.choice(("xor", "and", "and", "not"))
            lines.append(f"{name} = not {a}" if gate == "not" else f"{name} = {a} {gate} {b}")
        known.append(name)
    return "".join(f"{line}\n" for line in lines)


def wire_bits(text, first, later, beats):
    """For each beat, a dict from each wire of a circuit to its bit, reckoned from the text alone."""
    lines = [line.split() for line in text.splitlines()]
    first = list(first)
    starts = {line[1]: first.pop(0) if line[0] == "secret" else int(line[2]) for line in lines
              if line[0] in ("secret", "cell") and line[1] != "="}
    found = []
    for at in range(beats):
        bits = {}
        row = list(later[at]) if at < len(later) else []
        for line in lines:
            if line[1] == "=":
                pair = [bits[word] for word in line[2:] if word in bits]
                if "not" in line:
                    bits[line[0]] = int(not pair[0])
                elif "and" in line:
                    bits[line[0]] = int(all(pair))
                else:
                    bits[line[0]] = int(pair[0] != pair[1])
            elif line[0] in ("secret", "cell"):
                bits[line[1]] = starts[line[1]] if at == 0 else found[-1][line[-1]]
            elif line[0] == "in":
                bits[line[1]] = row.pop(0)
        found.append(bits)
    return found


def opened_rows(text, first, later, beats):
    """The opened rows of a circuit, reckoned from the text alone."""
    opened = [line.split()[1] for line in text.splitlines() if line.startswith("open ")]
    return [tuple(bits[wire] for wire in opened) for bits in wire_bits(text, first, later, beats)]


def piece_bits(text, parts, coins):
    """A dict from each wire of a piece to its bit, reckoned from the text alone."""
    head, *lines = [line.split() for line in text.splitlines()]
    letters = "ab" if head[1] == "product" else "a"
    bits = dict(zip([f"{letter}{at}" for letter in letters for at in range(int(head[2]))], parts))
    coins = list(coins)
    for line in lines[:-1]:
        if line[0] == "coin" and line[1] != "=":
            bits[line[1]] = coins.pop(0)
        elif line[2] == "not":
            bits[line[0]] = 1 - bits[line[3]]
        elif line[3] == "xor":
            bits[line[0]] = (bits[line[2]] + bits[line[4]]) % 2
        else:
            bits[line[0]] = bits[line[2]] * bits[line[4]]
    return bits


def random_piece(source, kind=None, n=None, coins=None, gates=None, right=False):
    """The text of a random piece; a right one has a last out that makes it so."""
    kind = kind or source.choice(("product", "refresh"))
    n = n or source.randint(2, 3)
    parts = [f"{letter}{at}" for letter in ("ab" if kind == "product" else "a") for at in range(n)]
    coins = source.randint(0, 3) if coins is None else coins
    gates = source.randint(0, 8) if gates is None else gates
    names = [f"r{at}" for at in range(coins)] + [f"g{at}" for at in range(gates)]
    source.shuffle(names)
    known, lines = list(parts), []
    for name in names:
        a, b = source.choice(known), source.choice(known)
        if name[0] == "r":
            lines.append(f"coin {name}")
        else:
            lines.append(source.choice((f"{name} = {a} xor {b}", f"{name} = {a} and {b}", f"{name} = not {a}",
                                        f"{name} = {a} xor {b}")))
        known.append(name)
    outs = [source.choice(known[-6:]) for _ in range(n)]
    if right:
        lines, outs = _righted(kind, n, lines, outs)
    return "".join(f"{line}\n" for line in [f"piece {kind} {n}", *lines, f"out {' '.join(outs)}"])


def _righted(kind, n, lines, outs):
    lines = list(lines)
    wires = [f"a{at}" for at in range(n)] + outs[:-1]
    if kind == "product":
        wires = [f"w{i}{j}" for i in range(n) for j in range(n)] + outs[:-1]
        lines += [f"w{i}{j} = a{i} and b{j}" for i in range(n) for j in range(n)]
    last = wires[0]
    for at, wire in enumerate(wires[1:]):
        lines.append(f"v{at} = {last} xor {wire}")
        last = f"v{at}"
    return lines, outs[:-1] + [last]


def leaky_piece(source, text, many):
    """The text of a piece with so many gates more, which its outs do not read."""
    head, *lines, out = text.splitlines()
    parts = [f"{letter}{at}" for letter in ("ab" if "product" in head else "a") for at in range(int(head.split()[-1]))]
    for number in range(many):
        at = source.randint(0, len(lines))
        known = parts + [line.split()[1] if line.startswith("coin") else line.split()[0] for line in lines[:at]]
        a, b = source.choice(known), source.choice(known)
        gate = source.choice((f"{a} and {b}", f"{a} xor {b}", f"{a} xor {b}", f"not {a}"))
        lines.insert(at, f"x{number} = {gate}")
    return "".join(f"{line}\n" for line in [head, *lines, out])
