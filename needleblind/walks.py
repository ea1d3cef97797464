"""Walks: programs that are done deed by deed."""

from needleblind.errors import BadNumber, BadSecrets, NoBit, NoWord
from needleblind.expressions import worth
from needleblind.names import is_number

MOST_COUNTED = 1000


def check_secrets(program, worths):
    """Raises BadSecrets("first") for any value that is no row of secrets of the program."""
    if not isinstance(worths, (list, tuple)) or len(worths) != len(program.hidden()):
        raise BadSecrets("first")
    for item in worths:
        if not is_number(item, 0, (1 << program.width) - 1):
            raise BadSecrets("first")


def walk(program, worths, *, most=200):
    """The walk of a program with a list of the secrets."""
    check_secrets(program, worths)
    if not is_number(most, 0, MOST_COUNTED):
        raise BadNumber(most)
    walker = Walker(program, worths)
    many = 0
    while many < most and walker.has_more():
        walker.step()
        many += 1
    return Walk(walker, many)


class Walk:
    """What a walk showed, and how it stands at its end."""

    def __init__(self, walker, many):
        self.shown = tuple(walker.shown_worths)
        self.many = many
        self.ended = not walker.has_more()
        self._words = dict(walker.word_worths)
        self._rows = {name: tuple(row) for name, row in walker.row_worths.items()}

    def word(self, name, at=0):
        """The worth of a word, or of the item at of a row."""
        if not isinstance(name, str):
            raise NoWord(name)
        if name in self._words:
            return self._words[name]
        if name not in self._rows:
            raise NoWord(name)
        row = self._rows[name]
        if not is_number(at, 0, len(row) - 1):
            raise NoBit(at)
        return row[at]


class Walker:
    """Does the deeds of a program one by one."""

    def __init__(self, program, worths):
        self.width = program.width
        self.word_worths = {name: 0 for name in program.words()}
        for name, worth_now in zip(program.hidden(), worths):
            self.word_worths[name] = worth_now
        self.row_worths = {name: [0] * length for name, length in program.rows()}
        self.shown_worths = []
        # The deeds that are being done, the innermost ones last, each with the place of the next one.
        self.levels = [[program.deeds(), 0]]

    def has_more(self):
        """Whether a deed or a test is left to be done."""
        while self.levels and self.levels[-1][1] == len(self.levels[-1][0]):
            self.levels.pop()
        return len(self.levels) > 0

    def step(self):
        """Does the next deed or test; has_more has just told that there is one."""
        level = self.levels[-1]
        deed = level[0][level[1]]
        if deed[0] == "while":
            self.test_while(deed, level)
            return
        level[1] += 1
        if deed[0] == "if":
            self.test_if(deed)
        elif deed[0] == "stop":
            self.levels = []
        else:
            self.change(deed)

    def test_while(self, deed, level):
        """Goes into the body, and back to the test behind it, or past the while."""
        if self.worth_of(deed[1]) == 0:
            level[1] += 1
        else:
            self.levels.append([deed[2], 0])

    def test_if(self, deed):
        """Goes into one part of an if."""
        part = deed[3] if self.worth_of(deed[1]) == 0 else deed[2]
        if part is not None:
            self.levels.append([part, 0])

    def change(self, deed):
        """Does a set, put or show."""
        if deed[0] == "set":
            self.word_worths[deed[1]] = self.worth_of(deed[2])
        elif deed[0] == "put":
            row = self.row_worths[deed[1]]
            at = self.worth_of(deed[2]) % len(row)
            row[at] = self.worth_of(deed[3])
        else:
            self.shown_worths.append(self.worth_of(deed[1]))

    def worth_of(self, tree):
        """The worth of an expression now."""
        return worth(tree, self.width, self.word_worths, self.row_worths)
