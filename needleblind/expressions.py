"""Expressions: their tokens, their trees, their written form and their worths."""

from needleblind.names import RUN_SIGNS, is_numeral, program_name

TIGHT_SIGNS = ("+", "-")
LOOSE_SIGNS = ("&", "|", "^", "==", "<")
PREFIXES = ("~", "half", "twice")
MOST_TOKENS = 60
MOST_AROUND = 6
MOST_DIGITS = 9
# What a run of more than 9 digits is read as: it is too great wherever a number may stand.
TOO_GREAT = 1000000000


def tokens(line):
    """The list of the tokens of a line, as strings."""
    found = []
    at = 0
    while at < len(line):
        end = _token_end(line, at)
        if line[at] != " ":
            found.append(line[at:end])
        at = end
    return found


def _token_end(line, at):
    if line[at:at + 2] == "==":
        return at + 2
    end = at + 1
    if line[at] in RUN_SIGNS:
        while end < len(line) and line[end] in RUN_SIGNS:
            end += 1
    return end


class Reader:
    """Reads a row of tokens from left to right; a method that finds no form returns None."""

    def __init__(self, row):
        self.row = row
        self.at = 0
        self.deepest = 0
        self.greatest = 0
        self.word_names = []
        self.row_names = []

    def ahead(self):
        """The next token, or the empty string behind the last one."""
        if self.at == len(self.row):
            return ""
        return self.row[self.at]

    def take(self):
        """The next token, which is behind the reader then; the empty string behind the last one."""
        token = self.ahead()
        if token != "":
            self.at += 1
        return token

    def is_done(self):
        """Whether no token is left."""
        return self.at == len(self.row)

    def whole(self):
        """The expression that all tokens left are."""
        tree = self.loose(0)
        return tree if self.is_done() else None

    def loose(self, depth):
        """An expression that stands within so many brackets and prefixes."""
        left = self.tight(depth)
        while left is not None and self.ahead() in LOOSE_SIGNS:
            sign = self.take()
            left = _joined(sign, left, self.tight(depth))
        return left

    def tight(self, depth):
        """An expression without the loose signs."""
        left = self.single(depth)
        while left is not None and self.ahead() in TIGHT_SIGNS:
            sign = self.take()
            left = _joined(sign, left, self.single(depth))
        return left

    def single(self, depth):
        """A number, a word, an item, an expression in brackets, or one of these with a prefix."""
        token = self.take()
        if token in PREFIXES:
            operand = self.single(depth + 1)
            return None if operand is None else (token, operand)
        if token == "(":
            return self.enclosed(depth + 1, ")")
        self.deepest = max(self.deepest, depth)
        if is_numeral(token):
            return self.number(token)
        if program_name(token):
            return self.named(token, depth)
        return None

    def enclosed(self, depth, close):
        """An expression and the bracket that closes it."""
        tree = self.loose(depth)
        return tree if self.take() == close else None

    def number(self, token):
        """The expression that a run of digits is."""
        number = TOO_GREAT if len(token) > MOST_DIGITS else int(token)
        self.greatest = max(self.greatest, number)
        return ("number", number)

    def named(self, name, depth):
        """The word, or the item of a row, that begins with a name."""
        if self.ahead() != "[":
            self.word_names.append(name)
            return ("word", name)
        inner = self.place_in(name, depth)
        return None if inner is None else ("at", name, inner)

    def place_in(self, name, depth):
        """The expression in square brackets behind the name of a row."""
        self.row_names.append(name)
        return self.enclosed(depth + 1, "]") if self.take() == "[" else None


def _joined(sign, left, right):
    return None if right is None else (sign, left, right)


def read_expression(line):
    """The expression that a line is, or None for any value that is none."""
    if not isinstance(line, str):
        return None
    row = tokens(line)
    if len(row) > MOST_TOKENS:
        return None
    reader = Reader(row)
    tree = reader.whole()
    if reader.deepest > MOST_AROUND or reader.greatest == TOO_GREAT:
        return None
    return tree


def expression_text(tree):
    """The written form of an expression."""
    kind = tree[0]
    if kind == "number":
        return str(tree[1])
    if kind == "word":
        return tree[1]
    if kind == "at":
        return f"{tree[1]}[{expression_text(tree[2])}]"
    if kind in PREFIXES:
        operand = _operand_text(tree[1], _has_two(tree[1]))
        return f"~{operand}" if kind == "~" else f"{kind} {operand}"
    left = _operand_text(tree[1], kind in TIGHT_SIGNS and tree[1][0] in LOOSE_SIGNS)
    binds = kind in LOOSE_SIGNS and tree[2][0] in TIGHT_SIGNS
    right = _operand_text(tree[2], _has_two(tree[2]) and not binds)
    return f"{left} {kind} {right}"


def _has_two(tree):
    return tree[0] in TIGHT_SIGNS or tree[0] in LOOSE_SIGNS


def _operand_text(tree, bracketed):
    text = expression_text(tree)
    return f"({text})" if bracketed else text


def names_in(tree):
    """The ascending list of the names of the words and rows in an expression, each once."""
    found = set()
    waiting = [tree]
    while waiting:
        part = waiting.pop()
        if part[0] == "at":
            found.add(part[1])
            waiting.append(part[2])
        elif part[0] == "word":
            found.add(part[1])
        elif part[0] != "number":
            waiting.extend(part[1:])
    return sorted(found)


def worth(tree, width, words, rows):
    """The worth of an expression, with a dict of the words and a dict of the rows."""
    kind = tree[0]
    size = 1 << width
    if kind == "number":
        return tree[1] % size
    if kind == "word":
        return words[tree[1]] % size
    if kind == "at":
        row = rows[tree[1]]
        return row[worth(tree[2], width, words, rows) % len(row)] % size
    if kind in PREFIXES:
        return prefix_worth(kind, worth(tree[1], width, words, rows), size)
    left = worth(tree[1], width, words, rows)
    right = worth(tree[2], width, words, rows)
    return sign_worth(kind, left, right, size)


def prefix_worth(prefix, number, size):
    """The worth of a prefix with a worth below size behind it."""
    if prefix == "half":
        return number // 2
    if prefix == "twice":
        return number * 2 % size
    return size - 1 - number


def sign_worth(sign, left, right, size):
    """The worth of a sign between two worths below size."""
    if sign == "+":
        return (left + right) % size
    if sign == "-":
        return (left - right) % size
    if sign == "&":
        return left & right
    if sign == "|":
        return left | right
    if sign == "^":
        return left ^ right
    if sign == "==":
        return 1 if left == right else 0
    return 1 if left < right else 0
