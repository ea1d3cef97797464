"""Odds: how many tapes give each row of readings."""

from needleblind.bits import bit_rows
from needleblind.covers import part_count
from needleblind.errors import BadTape, TooMany
from needleblind.names import is_bits, is_number
from needleblind.plain import check_beats, check_fit
from needleblind.runs import Run, check_parts_and_t
from needleblind.tapes import Tape, bits_needed

MOST_LISTED = 14


def odds(circuit, secrets, *, t=1, rule, beats, parts=None, refresh=True, free=None):
    """The ascending list of the pairs (reading row, how many tapes give it)."""
    lister = Lister(circuit, rule, t=t, beats=beats, parts=parts, refresh=refresh)
    counted = lister.counted(secrets, free)
    return [(row, counted[row]) for row in sorted(counted)]


def unlike(circuit, one, other, *, t=1, rule, beats, parts=None, refresh=True, free=None):
    """None if the odds of two secrets are equal, otherwise the first paper of unlike odds."""
    lister = Lister(circuit, rule, t=t, beats=beats, parts=parts, refresh=refresh)
    first = lister.counted(one, free)
    second = lister.counted(other, free)
    for row in sorted([*first, *second]):
        if first.get(row, 0) != second.get(row, 0):
            return (row, first.get(row, 0), second.get(row, 0))
    return None


def is_unlike(circuit, one, other, paper, *, t=1, rule, beats, parts=None, refresh=True, free=None):
    """Whether any value is a paper of unlike odds with these counts."""
    lister = Lister(circuit, rule, t=t, beats=beats, parts=parts, refresh=refresh)
    first = lister.counted(one, free)
    second = lister.counted(other, free)
    if not isinstance(paper, tuple) or len(paper) != 3 or not _is_reading_row(paper[0]):
        return False
    for many in paper[1:]:
        if not is_number(many, 0, 1 << MOST_LISTED):
            return False
    row = paper[0]
    return paper[1:] == (first.get(row, 0), second.get(row, 0)) and paper[1] != paper[2]


def _is_reading_row(value):
    if not isinstance(value, tuple):
        return False
    return all([isinstance(reading, tuple) and is_bits(reading) for reading in value])


class Lister:
    """Lists the tapes of runs, or of bare runs, and counts what they give."""

    def __init__(self, circuit, rule, *, t, beats, parts, refresh):
        check_parts_and_t(parts, t)
        check_beats(beats)
        self.circuit = circuit
        self.rule = rule
        self.t = t
        self.beats = beats
        self.bare_parts = parts
        self.refresh = refresh
        n = part_count(t) if parts is None else parts
        self.tape_size = bits_needed(circuit, beats, parts=n, refresh=refresh or parts is None)

    def counted(self, secrets, free):
        """The dict from each reading row that some tape gives to how many do."""
        check_fit(self.circuit, secrets, self.beats)
        positions = self.listed_positions(free)
        found = {}
        bits = [0] * self.tape_size
        # The tapes ascend, so that the first run with errors is that of the least tape.
        for row in bit_rows(len(positions)):
            for at, bit in zip(positions, row):
                bits[at] = bit
            shown = self.shown_with(secrets, Tape(bits))
            found[shown] = found.get(shown, 0) + 1
        return found

    def listed_positions(self, free):
        """The ascending list of the positions of the bits that are listed."""
        if free is None:
            positions = list(range(self.tape_size))
        else:
            if not self.are_positions(free):
                raise BadTape(free)
            positions = sorted(free)
        if len(positions) > MOST_LISTED:
            raise TooMany("listed", len(positions))
        return positions

    def are_positions(self, value):
        """Whether any value is a list or tuple of unlike positions of the tapes."""
        if not isinstance(value, (list, tuple)):
            return False
        return all([is_number(at, 0, self.tape_size - 1) for at in value]) and len(set(value)) == len(value)

    def shown_with(self, secrets, tape):
        """The reading row of the run with a tape."""
        run = Run(self.circuit, secrets, tape, t=self.t, rule=self.rule, parts=self.bare_parts, refresh=self.refresh)
        run.go(self.beats)
        return tuple(run.readings)
