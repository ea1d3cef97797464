"""The errors of the package; each one keeps the values that it is given."""


class CoverError(ValueError):
    """A value that is passed cannot be used."""


class Missing(LookupError):
    """What is asked for is not there."""


class Stopped(RuntimeError):
    """What is asked for cannot be done with these values together."""


class BadProgram(CoverError):
    """A line of a program has a fault."""

    def __init__(self, line, why):
        self.line = line
        self.why = why


class BadCircuit(CoverError):
    """A line of a circuit has a fault."""

    def __init__(self, line, why):
        self.line = line
        self.why = why


class BadPiece(CoverError):
    """A line of a piece has a fault."""

    def __init__(self, line, why):
        self.line = line
        self.why = why


class BadBook(CoverError):
    """A line of a book cannot stand so."""

    def __init__(self, line):
        self.line = line


class BadLook(CoverError):
    """A value is no look."""

    def __init__(self, look):
        self.look = look


class BadSecrets(CoverError):
    """Secrets have not the right form."""

    def __init__(self, what):
        self.what = what


class BadNumber(CoverError):
    """A value is no number, or none of those that may stand there."""

    def __init__(self, value):
        self.value = value


class BadName(CoverError):
    """A value is no name that may stand there."""

    def __init__(self, value):
        self.value = value


class BadTape(CoverError):
    """A value is no tape, or none that may stand there."""

    def __init__(self, value):
        self.value = value


class BadStanding(CoverError):
    """An item of a standing cannot be."""

    def __init__(self, at):
        self.at = at


class NotBlock(CoverError):
    """A circuit with cells is no block."""

    def __init__(self):
        pass


class NotAlike(CoverError):
    """Two things have not as many of something."""

    def __init__(self, what):
        self.what = what


class TooMany(CoverError):
    """There are more of something than the bounds allow."""

    def __init__(self, what, many):
        self.what = what
        self.many = many


class NoWord(Missing):
    """A value is no name of a word or row."""

    def __init__(self, name):
        self.name = name


class NoWire(Missing):
    """A value is no wire."""

    def __init__(self, name):
        self.name = name


class NoBit(Missing):
    """A value is no index or position."""

    def __init__(self, at):
        self.at = at


class TapeEnds(Stopped):
    """The tape has too few bits for a beat."""

    def __init__(self, at):
        self.at = at


class Parted(Stopped):
    """The opened rows of two secrets differ."""

    def __init__(self, at):
        self.at = at


class NotTaken(Stopped):
    """A piece cannot be laid there."""

    def __init__(self, name):
        self.name = name
