"""The machine, which does one instruction in each beat."""

from needleblind.errors import BadNumber, BadStanding
from needleblind.expressions import prefix_worth, sign_worth
from needleblind.names import is_number
from needleblind.walks import check_secrets

MOST_AT_ONCE = 1000
SIGNS = {"add": "+", "sub": "-", "and": "&", "or": "|", "xor": "^", "eq": "==", "less": "<"}
PREFIX_SIGNS = {"flip": "~", "half": "half", "twice": "twice"}


class Machine:
    """A machine with a code, which does one beat after another."""

    def __init__(self, code, worths):
        check_secrets(code.program, worths)
        self._code = code
        self._instructions = code.rows()
        self._size = 1 << code.width
        self._beat = 0
        self._place = 0
        self._worth = 0
        self._pointer = 0
        self._memory = [0] * len(code.memory())
        for name, worth in zip(code.program.hidden(), worths):
            self._memory[code.address(name)] = worth
        self._outputs = []

    @property
    def beat(self):
        """How many beats have been done."""
        return self._beat

    @property
    def place(self):
        """The place of the next instruction."""
        return self._place

    @property
    def outputs(self):
        """The list of the pairs (beat, number) that have been shown."""
        return list(self._outputs)

    def step(self):
        """Does one beat; returns the shown number, or None."""
        row = self._instructions[self._place]
        self._place = self._place_behind(row)
        shown = None
        if row[0] == "show":
            shown = self._worth
            self._outputs.append((self._beat, shown))
        elif row[0] == "store":
            self._memory[self._code.address(row[1])] = self._worth
        elif row[0] == "put":
            self._memory[self._pointer] = self._worth
        elif row[0] == "index":
            self._pointer = self._code.address(row[1]) + self._worth % row[2]
        else:
            self._worth = self._worth_behind(row)
        self._beat += 1
        return shown

    def _place_behind(self, row):
        if row[0] == "stop":
            return self._place
        if row[0] == "jump" or (row[0] == "jumpzero" and self._worth == 0):
            return row[1]
        return self._place + 1

    def _worth_behind(self, row):
        kind = row[0]
        if kind == "load":
            return self._memory[self._code.address(row[1])]
        if kind == "get":
            return self._memory[self._pointer]
        if kind == "const":
            return row[1]
        if kind in PREFIX_SIGNS:
            return prefix_worth(PREFIX_SIGNS[kind], self._worth, self._size)
        if kind in SIGNS:
            other = self._memory[self._code.address(row[1])]
            return sign_worth(SIGNS[kind], self._worth, other, self._size)
        return self._worth

    def go(self, beats):
        """Does so many beats."""
        if not is_number(beats, 0, MOST_AT_ONCE):
            raise BadNumber(beats)
        for _ in range(beats):
            self.step()

    def word(self, name, at=0):
        """The worth of a word or temp, or of the item at of a row, now."""
        return self._memory[self._code.address(name, at)]

    def branch(self):
        """Another machine that stands the same; both go on apart."""
        return machine_at(self._code, self.standing())

    def standing(self):
        """The tuple (beat, place, A, P, words, outputs)."""
        words = tuple(self._memory)
        outputs = tuple(self._outputs)
        return (self._beat, self._place, self._worth, self._pointer, words, outputs)

    def _stand(self, standing):
        beat, place, worth, pointer, words, outputs = standing
        self._beat = beat
        self._place = place
        self._worth = worth
        self._pointer = pointer
        self._memory = list(words)
        self._outputs = list(outputs)


def machine_at(code, standing):
    """The machine that stands so."""
    if not isinstance(standing, tuple) or len(standing) != 6:
        raise BadStanding(-1)
    wrong = _first_wrong(code, standing)
    if wrong is not None:
        raise BadStanding(wrong)
    machine = Machine(code, [0] * len(code.program.hidden()))
    machine._stand(standing)
    return machine


def _first_wrong(code, standing):
    beat, place, worth, pointer, words, outputs = standing
    greatest = (1 << code.width) - 1
    many = len(code.memory())
    if not _is_beat(beat):
        return 0
    if not is_number(place, 0, len(code) - 1):
        return 1
    if not is_number(worth, 0, greatest):
        return 2
    if not is_number(pointer, 0, max(many - 1, 0)):
        return 3
    if not _are_words(words, many, greatest):
        return 4
    if not _are_outputs(outputs, beat, greatest):
        return 5
    return None


def _is_beat(value):
    # There is no greatest beat: a machine may go on for as long as it is told.
    return isinstance(value, int) and not isinstance(value, bool) and value >= 0


def _are_words(value, many, greatest):
    if not isinstance(value, tuple) or len(value) != many:
        return False
    return all([is_number(item, 0, greatest) for item in value])


def _are_outputs(value, beat, greatest):
    if not isinstance(value, tuple):
        return False
    least = 0
    for pair in value:
        if not isinstance(pair, tuple) or len(pair) != 2:
            return False
        if not is_number(pair[0], least, beat - 1) or not is_number(pair[1], 0, greatest):
            return False
        least = pair[0] + 1
    return True
