"""Pieces: products and refreshes, read from their texts."""

from needleblind.columns import do_gates
from needleblind.errors import BadPiece, BadSecrets, TooMany
from needleblind.lines import cut_lines, gate_of, read_by
from needleblind.names import is_bits, wire_name

MOST_LINES = 80
MOST_BITS = 14
KINDS = ("product", "refresh")
PART_COUNTS = ("2", "3", "4", "5", "6", "7", "8", "9", "10")


class Piece:
    """A piece, which never changes."""

    def __init__(self, text):
        parser = _parsed(text)
        self.kind = parser.kind
        self.n = parser.n
        self._text = text
        self._parts = parser.part_names
        self._lines = parser.forms
        self._coins = [form[0] for form in parser.forms if form[1] == "coin"]
        self._outs = parser.out_wires
        if len(self._lines) > MOST_LINES:
            raise TooMany("lines", len(self._lines))
        if len(self._parts) + len(self._coins) > MOST_BITS:
            raise TooMany("bits", len(self._parts) + len(self._coins))

    def __eq__(self, other):
        return isinstance(other, Piece) and self._text == other._text

    def __str__(self):
        return str(self._text)

    def __repr__(self):
        return f"Piece({self.kind} {self.n}, {len(self._coins)} coins)"

    def text(self):
        """The text."""
        return self._text

    def parts(self):
        """The names of the input parts."""
        return list(self._parts)

    def coins(self):
        """The names of the coins."""
        return list(self._coins)

    def lines(self):
        """The tuples (name, kind, a, b) of the lines, with None where there is nothing."""
        return list(self._lines)

    def outs(self):
        """The wires of the out line."""
        return list(self._outs)

    def worths(self, parts, coins):
        """A dict from each wire to its bit for a row of parts and a row of coins."""
        if not is_bits(parts, len(self._parts)):
            raise BadSecrets("parts")
        if not is_bits(coins, len(self._coins)):
            raise BadSecrets("coins")
        bits = {name: bit for name, bit in zip([*self._parts, *self._coins], [*parts, *coins])}
        do_gates(self._lines, bits, 1)
        return bits


def _parsed(text):
    if not isinstance(text, str):
        raise BadPiece(0, "form")
    lines, lacks_end = cut_lines(text)
    if not lines:
        raise BadPiece(1, "form")
    parser = PieceParser()
    for at, line in enumerate(lines):
        why = parser.fault_of(line.split(" "))
        if lacks_end and at == len(lines) - 1:
            why = "form"
        if why is not None:
            raise BadPiece(at + 1, why)
    if parser.out_wires is None:
        raise BadPiece(len(lines) + 1, "end")
    return parser


class PieceParser:
    """Takes the lines of a piece one by one, up to the first one with a fault."""

    def __init__(self):
        self.kind = None
        self.n = 0
        self.part_names = []
        self.forms = []
        self.given = {}
        self.out_wires = None

    def fault_of(self, row):
        """Takes the words of a line; the word for its fault, or None."""
        if "" in row or self.out_wires is not None:
            return "form"
        if self.kind is None:
            return self.fault_of_head(row)
        if row[0] == "out":
            return self.fault_of_outs(row[1:])
        return self.fault_of_form(_form_of(row))

    def fault_of_head(self, row):
        """Takes the first line."""
        if len(row) != 3 or row[0] != "piece" or row[1] not in KINDS or row[2] not in PART_COUNTS:
            return "form"
        self.kind = row[1]
        self.n = int(row[2])
        begins = ("a", "b") if self.kind == "product" else ("a",)
        self.part_names = [f"{begin}{at}" for begin in begins for at in range(self.n)]
        self.given = {name: True for name in self.part_names}
        return None

    def fault_of_form(self, form):
        """Takes a coin or gate; form is None if the line is none."""
        if form is None:
            return "form"
        if not wire_name(form[0]):
            return "name"
        if form[0] in self.given:
            return "twice"
        if form[1] != "coin" and not self.knows(read_by(form)):
            return "unknown"
        self.given[form[0]] = True
        self.forms.append(form)
        return None

    def fault_of_outs(self, wires):
        """Takes the out line."""
        if not self.knows(wires):
            return "unknown"
        if len(wires) != self.n:
            return "outs"
        self.out_wires = wires
        return None

    def knows(self, wires):
        """Whether all wires are input parts or given by an earlier line."""
        return all([wire in self.given for wire in wires])


def _form_of(row):
    if len(row) == 2 and row[0] == "coin":
        return (row[1], "coin", None, None)
    return gate_of(row)
