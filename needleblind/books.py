"""Books: what a run looked at, read, opened and used, written line by line."""

from needleblind.errors import BadBook, BadLook, BadNumber, TooMany
from needleblind.lines import cut_lines, line_text
from needleblind.looks import look_form
from needleblind.names import is_number, is_numeral
from needleblind.plain import MOST_BEATS
from needleblind.runs import Run

TS = ("1", "2", "3")
MOST_USED_DIGITS = 7


class Book:
    """The book of a run, which never changes."""

    def __init__(self, text):
        reader = _read(text)
        self.t = reader.t
        self._text = text
        self._rows = tuple(reader.beat_rows)
        if len(self._rows) > MOST_BEATS:
            raise TooMany("beats", len(self._rows))

    def __eq__(self, other):
        return isinstance(other, Book) and self._text == other._text

    def __len__(self):
        return len(self._rows)

    def __str__(self):
        return str(self._text)

    def __repr__(self):
        return f"Book({len(self._rows)} beats)"

    def text(self):
        """The text."""
        return self._text

    def rows(self):
        """The tuples (looks, reading, opened row, used) of the beats."""
        return list(self._rows)

    def cut(self, beats):
        """The book of the first beats."""
        if not is_number(beats, 0, len(self._rows)):
            raise BadNumber(beats)
        return _book_with(self.t, self._rows[:beats])


def _read(text):
    if not isinstance(text, str):
        raise BadBook(0)
    lines, lacks_end = cut_lines(text)
    reader = BookReader()
    for at, line in enumerate(lines):
        if not reader.takes(line) or (lacks_end and at == len(lines) - 1):
            raise BadBook(at + 1)
    if not reader.may_end():
        raise BadBook(len(lines) + 1)
    return reader


class BookReader:
    """Takes the lines of a book one by one, and tells of each whether it can stand so."""

    def __init__(self):
        self.t = 0
        self.beat_rows = []
        # Of the beat that is being read; None as its opened row as long as its line has not come.
        self.looks_now = []
        self.reading_now = []
        self.opened_now = None

    def may_end(self):
        """Whether a book may end here."""
        return self.t > 0 and self.looks_now == [] and self.opened_now is None

    def takes(self, line):
        """Takes a line."""
        words = line.split(" ")
        if self.t == 0:
            return self.takes_head(words)
        if self.opened_now is not None:
            return self.takes_used(words)
        if words[0] == "open":
            return self.takes_opened(words)
        return self.takes_read(words)

    def takes_head(self, words):
        """Takes the first line."""
        if len(words) != 2 or words[0] != "book" or words[1] not in TS:
            return False
        self.t = int(words[1])
        return True

    def takes_read(self, words):
        """Takes the line of a look."""
        if len(words) < 4 or words[0] != "read" or words[-2] != "=" or words[-1] not in ("0", "1"):
            return False
        look = " ".join(words[1:-2])
        if not look_form(look) or look in self.looks_now or len(self.looks_now) == self.t:
            return False
        self.looks_now.append(look)
        self.reading_now.append(int(words[-1]))
        return True

    def takes_opened(self, words):
        """Takes the line of an opened row."""
        if len(words) != 2 or words[1] == "":
            return False
        bits = "" if words[1] == "-" else words[1]
        if not all([sign in "01" for sign in bits]):
            return False
        self.opened_now = tuple([int(sign) for sign in bits])
        return True

    def takes_used(self, words):
        """Takes the line that ends a beat."""
        if len(words) != 2 or words[0] != "used" or not is_numeral(words[1]) or len(words[1]) > MOST_USED_DIGITS:
            return False
        self.beat_rows.append((tuple(self.looks_now), tuple(self.reading_now), self.opened_now, int(words[1])))
        self.looks_now = []
        self.reading_now = []
        self.opened_now = None
        return True


def _beat_lines(row):
    # The lines of a beat, without their line feeds.
    looks, reading, opened, used = row
    lines = [f"read {look} = {bit}" for look, bit in zip(looks, reading)]
    bits = "".join([str(bit) for bit in opened])
    return [*lines, f"open {bits}" if opened else "open -", f"used {used}"]


def _book_with(t, rows):
    lines = [f"book {t}"]
    for row in rows:
        lines.extend(_beat_lines(row))
    return Book(line_text(lines))


def book_of(run):
    """The book of a run."""
    return _book_with(run.t, list(zip(run.looked, run.readings, run.opened, run.ends)))


def take_up(book, circuit, secrets, tape, *, rule, pieces=None):
    """The run that does the beats of a book with its looks, and goes on behind them with the rule."""
    run = Run(circuit, secrets, tape, t=book.t, rule=rule, pieces=pieces)
    line = 2
    for row in book.rows():
        _do_again(run, row[0], line)
        line = _line_behind(run, row, line)
    return run


def replay(book, circuit, secrets, tape, *, rule, pieces=None):
    """Raises BadBook unless the book is that of the run with the rule."""
    run = Run(circuit, secrets, tape, t=book.t, rule=rule, pieces=pieces)
    line = 2
    for row in book.rows():
        run.step()
        line = _line_behind(run, row, line)


def _do_again(run, looks, line):
    # Does a beat of a book, whose first line has this number, with the looks of the book.
    try:
        run.step_with(looks)
    except BadLook as fault:
        raise BadBook(line + looks.index(fault.look))


def _line_behind(run, row, line):
    # The number of the first line behind a beat of a book, if the last beat of the run has its lines.
    made = _beat_lines((run.looked[-1], run.readings[-1], run.opened[-1], run.used))
    told = _beat_lines(row)
    # Both end with the line used, so that one of them is never the beginning of the other.
    for at, (text, own) in enumerate(zip(told, made)):
        if text != own:
            raise BadBook(line + at)
    return line + len(told)
