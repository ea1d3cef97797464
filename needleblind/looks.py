"""Looks: their forms, their numbers, and those that there are in a beat."""

from needleblind.errors import BadLook
from needleblind.names import wire_name

DIGIT_WORDS = ("0", "1", "2", "3", "4", "5", "6", "7", "8", "9")
REFRESH_KINDS = ("turn", "row")
PRODUCT_KINDS = ("coin", "prod", "half", "back", "sum")
# How the first digit of a kind with two digits stands to the second one.
ORDERS = {
    "turn": "less",
    "row": "unlike",
    "coin": "less",
    "prod": "unlike",
    "half": "less",
    "back": "greater",
    "sum": "any",
}


def all_looks(circuit, at, *, parts=4, refresh=True, pieces=None):
    """The looks of a beat, in their order."""
    sight = Sight(circuit, at, parts, refresh, pieces)
    for wire in circuit.wires():
        yield from sight.looks_at(wire)


def look_count(circuit, at, *, parts=4, refresh=True, pieces=None):
    """How many looks a beat has."""
    sight = Sight(circuit, at, parts, refresh, pieces)
    return sum([len(sight.looks_at(wire)) for wire in circuit.wires()])


def is_look(circuit, value, at, *, parts=4, refresh=True, pieces=None):
    """Whether any value is a look of a beat."""
    return Sight(circuit, at, parts, refresh, pieces).shows(value)


def look_numbers(look):
    """The ascending tuple of the numbers of a look of the house's kinds."""
    row = house_look(look)
    if row is None:
        raise BadLook(look)
    return row_numbers(row)


def look_form(value):
    """Whether any value has a form that a look in a book may have."""
    return look_row(value) is not None


def look_row(value):
    """The tuple (kind, wire, digits) or ("line", wire, line) of a look, or None for any value without such a form."""
    row = house_look(value)
    return row if row is not None else line_look(value)


def house_look(value):
    """The tuple (kind, wire, i, j), or ("part", wire, i), of a look; None for any value that has no such form."""
    if not isinstance(value, str):
        return None
    words = value.split(" ")
    if len(words) < 3 or not wire_name(words[1]) or not all([word in DIGIT_WORDS for word in words[2:]]):
        return None
    digits = [int(word) for word in words[2:]]
    return (words[0], words[1], *digits) if _are_digits_of(words[0], digits) else None


def line_look(value):
    """The tuple ("line", wire, line) of a look; None for any value that has no such form."""
    if not isinstance(value, str):
        return None
    words = value.split(" ")
    if len(words) != 3 or words[0] != "line" or not wire_name(words[1]) or not wire_name(words[2]):
        return None
    return tuple(words)


def row_numbers(row):
    """The ascending tuple of the numbers of what house_look tells of a look."""
    return tuple(sorted(row[2:])) if row[0] in ("prod", "half") else (row[2],)


def _are_digits_of(kind, digits):
    if kind == "part":
        return len(digits) == 1
    return kind in ORDERS and len(digits) == 2 and _stand_so(ORDERS[kind], digits[0], digits[1])


def _stand_so(order, i, j):
    if order == "less":
        return i < j
    if order == "greater":
        return i > j
    return order == "any" or i != j


def _digit_pairs(kind, n):
    return [(i, j) for i in range(n) for j in range(n) if _stand_so(ORDERS[kind], i, j)]


class Sight:
    """What may be looked at in a beat of a covered circuit."""

    def __init__(self, circuit, at, n, refresh, pieces):
        self.circuit = circuit
        self.n = n
        # In beat 0 no cell is refreshed.
        self.refreshed = refresh and at > 0
        self.laid = {} if pieces is None else pieces

    def works_at(self, wire):
        """Whether a refresh or product works at a wire: cell, and, or None."""
        kind = self.circuit.kind_of(wire)
        return kind if kind == "and" or (kind == "cell" and self.refreshed) else None

    def piece_lines(self, wire):
        """The names of the lines of the piece that works at a wire, or None if there is none."""
        if wire not in self.laid or self.works_at(wire) is None:
            return None
        return [line[0] for line in self.laid[wire].piece.lines()]

    def kinds_at(self, wire):
        """The kinds of the looks at a wire, but for line and part."""
        kind = self.works_at(wire)
        if kind is None or wire in self.laid:
            return ()
        return REFRESH_KINDS if kind == "cell" else PRODUCT_KINDS

    def looks_at(self, wire):
        """The looks at a wire, in their order."""
        lines = self.piece_lines(wire)
        looks = [] if lines is None else [f"line {wire} {name}" for name in lines]
        for kind in self.kinds_at(wire):
            looks.extend([f"{kind} {wire} {i} {j}" for i, j in _digit_pairs(kind, self.n)])
        looks.extend([f"part {wire} {i}" for i in range(self.n)])
        return looks

    def shows(self, value):
        """Whether any value is a look of this beat."""
        row = look_row(value)
        if row is None or row[1] not in self.circuit:
            return False
        if row[0] == "line":
            lines = self.piece_lines(row[1])
            return lines is not None and row[2] in lines
        if row[0] != "part" and row[0] not in self.kinds_at(row[1]):
            return False
        return max(row[2:]) < self.n
