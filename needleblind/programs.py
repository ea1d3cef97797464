"""Programs: the lines of their texts, and the deeds that they are."""

from needleblind.errors import BadProgram, TooMany
from needleblind.expressions import MOST_AROUND, MOST_TOKENS, Reader, expression_text, tokens
from needleblind.lines import cut_lines
from needleblind.names import is_letter_run, program_name

MOST_LINES = 60
MOST_BLOCKS = 6
WIDTHS = ("1", "2", "3", "4", "5", "6")
LENGTHS = ("2", "4", "8")
DECLARING = ("secret", "word", "row")


class Program:
    """A program, which never changes."""

    def __init__(self, text):
        parser = _parsed(text)
        self.width = parser.width
        self._text = "".join([f"{line}\n" for line in parser.written])
        self._many = len(parser.written)
        self._hidden = parser.hidden_names
        self._words = parser.word_names
        self._rows = parser.row_pairs
        self._deeds = tuple(parser.blocks[0].deeds_done)

    def __eq__(self, other):
        return isinstance(other, Program) and self._text == other._text

    def __str__(self):
        return str(self._text)

    def __repr__(self):
        return f"Program({len(self._words)} words, {self._many} lines)"

    def text(self):
        """The written text."""
        return self._text

    def hidden(self):
        """The names of the hidden words."""
        return list(self._hidden)

    def words(self):
        """The names of all words, hidden or not."""
        return list(self._words)

    def rows(self):
        """The pairs (name, length) of the rows."""
        return list(self._rows)

    def deeds(self):
        """The tuple of the deeds."""
        return self._deeds


def _parsed(text):
    if not isinstance(text, str):
        raise BadProgram(0, "form")
    lines, lacks_end = cut_lines(text)
    if len(lines) > MOST_LINES:
        raise TooMany("lines", len(lines))
    if not lines:
        raise BadProgram(1, "form")
    parser = Parser()
    for at, line in enumerate(lines):
        is_whole = not lacks_end or at < len(lines) - 1
        why = parser.fault_of(tokens(line), is_whole)
        if why is not None:
            raise BadProgram(at + 1, why)
    if len(parser.blocks) > 1:
        raise BadProgram(len(lines) + 1, "end")
    return parser


class Block:
    """The deeds of an open if or while, or of the program itself."""

    def __init__(self, head):
        self.head = head
        self.deeds_done = []
        self.deeds_yes = None

    def can_turn(self):
        """Whether an else may stand here."""
        return self.head[0] == "if" and self.deeds_yes is None

    def turn(self):
        """Begins the else part."""
        self.deeds_yes = self.deeds_done
        self.deeds_done = []

    def closed(self):
        """The deed that the block is, now that its end has come."""
        done = tuple(self.deeds_done)
        if self.head[0] == "while":
            return (*self.head, done)
        if self.deeds_yes is None:
            return (*self.head, done, None)
        return (*self.head, tuple(self.deeds_yes), done)


class Parser:
    """Takes the lines of a program one by one, up to the first one with a fault."""

    def __init__(self):
        self.width = 0
        self.hidden_names = []
        self.word_names = []
        self.row_pairs = []
        # By each declared name, whether it is a row.
        self.declared = {}
        self.written = []
        self.blocks = [Block(("program",))]
        self.in_deeds = False

    def fault_of(self, row, is_whole):
        """Takes the tokens of a line; the word for its fault, or None."""
        if len(row) > MOST_TOKENS:
            return "long"
        if not is_whole or not row:
            return "form"
        if not self.written:
            return self.fault_of_width(row)
        if row[0] in DECLARING:
            return self.fault_of_declaration(row)
        return self.fault_of_deed(Reader(row))

    def fault_of_width(self, row):
        """Takes the first line."""
        if len(row) != 2 or row[0] != "width" or row[1] not in WIDTHS:
            return "form"
        self.width = int(row[1])
        self.written.append(" ".join(row))
        return None

    def fault_of_declaration(self, row):
        """Takes a line that declares names."""
        names = _declared_names(row)
        if self.in_deeds or not names:
            return "form"
        for name in names:
            if not program_name(name):
                return "name"
        for at, name in enumerate(names):
            if name in self.declared or name in names[:at]:
                return "twice"
        self.declare(row, names)
        return None

    def declare(self, row, names):
        """Keeps the names of a line without a fault."""
        for name in names:
            self.declared[name] = row[0] == "row"
        if row[0] == "row":
            self.row_pairs.append((row[1], int(row[2])))
        else:
            self.word_names.extend(names)
        if row[0] == "secret":
            self.hidden_names.extend(names)
        self.written.append(" ".join(row))

    def fault_of_deed(self, reader):
        """Takes a line of a deed."""
        deed = _deed_of(reader)
        if deed is None or not self.has_place_for(deed[0]):
            return "form"
        if reader.deepest > MOST_AROUND:
            return "deep"
        if deed[0] in ("if", "while") and len(self.blocks) > MOST_BLOCKS:
            return "deep"
        if not self.knows(reader):
            return "unknown"
        if reader.greatest >= 1 << self.width:
            return "big"
        self.do(deed)
        self.written.append(_deed_text(deed))
        return None

    def has_place_for(self, kind):
        """Whether an else or end may stand here; all other deeds may."""
        if kind == "else":
            return self.blocks[-1].can_turn()
        return kind != "end" or len(self.blocks) > 1

    def knows(self, reader):
        """Whether all names of a line are declared as what they stand for."""
        for name in reader.word_names:
            if self.declared.get(name) is not False:
                return False
        for name in reader.row_names:
            if self.declared.get(name) is not True:
                return False
        return True

    def do(self, deed):
        """Keeps the deed of a line without a fault."""
        self.in_deeds = True
        if deed[0] in ("if", "while"):
            self.blocks.append(Block(deed))
        elif deed[0] == "else":
            self.blocks[-1].turn()
        elif deed[0] == "end":
            block = self.blocks.pop()
            self.blocks[-1].deeds_done.append(block.closed())
        else:
            self.blocks[-1].deeds_done.append(deed)


def _declared_names(row):
    # The names of a line that declares some, of whatever form; none if the line has no form.
    names = row[1:]
    if row[0] == "row":
        if len(row) != 3 or row[2] not in LENGTHS:
            return []
        names = row[1:2]
    for name in names:
        if not is_letter_run(name):
            return []
    return names


def _deed_of(reader):
    # The deed of a line, without the parts of an if or while, or None if the line has no form.
    first = reader.take()
    if first in ("stop", "else", "end"):
        return (first,) if reader.is_done() else None
    if first in ("show", "if", "while"):
        return _full((first, reader.whole()))
    if not program_name(first):
        return None
    if reader.ahead() == "[":
        place = reader.place_in(first, 0)
        return _full(("put", first, place, _behind_equals(reader)))
    reader.word_names.append(first)
    return _full(("set", first, _behind_equals(reader)))


def _behind_equals(reader):
    return reader.whole() if reader.take() == "=" else None


def _full(deed):
    return None if None in deed else deed


def _deed_text(deed):
    if deed[0] == "set":
        return f"{deed[1]} = {expression_text(deed[2])}"
    if deed[0] == "put":
        return f"{deed[1]}[{expression_text(deed[2])}] = {expression_text(deed[3])}"
    if len(deed) == 2:
        return f"{deed[0]} {expression_text(deed[1])}"
    return deed[0]
