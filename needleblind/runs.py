"""Covered runs, in which a rule looks at a few wires in each beat."""

from needleblind.bits import parity
from needleblind.covers import Beat, Cover, check_pieces, part_count
from needleblind.errors import BadLook, BadNumber, BadSecrets, NoWire, TapeEnds, TooMany
from needleblind.looks import Sight, look_row
from needleblind.names import is_number
from needleblind.plain import MOST_BEATS, check_beats, check_lengths

GREATEST_T = 3
MOST_PARTS = 10
MOST_BARE_LOOKS = 10


def check_t(t):
    """Raises BadNumber unless t is a number from 1 to 3."""
    if not is_number(t, 1, GREATEST_T):
        raise BadNumber(t)


def check_parts_and_t(parts, t):
    """Raises BadNumber unless parts is None, or the number of parts of a bare run, and t is fit for it."""
    if parts is None:
        check_t(t)
        return
    if not is_number(parts, 2, MOST_PARTS):
        raise BadNumber(parts)
    if not is_number(t, 1, MOST_BARE_LOOKS):
        raise BadNumber(t)


class Run:
    """A run of a covered circuit, which does one beat after another; with a number of parts, a bare run."""

    def __init__(self, circuit, secrets, tape, *, t=1, rule, pieces=None, parts=None, refresh=True):
        check_parts_and_t(parts, t)
        check_lengths(circuit, secrets)
        if parts is None:
            laid = {} if pieces is None else dict(pieces)
            check_pieces(circuit, laid, t)
            self._cover = Cover(circuit, part_count(t), pieces=laid)
        else:
            self._cover = Cover(circuit, parts, refresh=refresh)
        if len(tape) < self._cover.door_coins:
            raise TapeEnds(0)
        self.t = t
        self._secrets = secrets
        self._tape = tape
        self._rule = rule
        self._bare_parts = parts
        self._door = self._cover.door_parts(secrets.first(), tape.bits())
        # Of each beat done (looks, reading, opened row, how many coins have been used), and the last one itself.
        self._done = ()
        self._last = None

    @property
    def beat(self):
        """How many beats have been done."""
        return len(self._done)

    @property
    def looked(self):
        """The list of the tuples of unlike looks of all beats done."""
        return [row[0] for row in self._done]

    @property
    def readings(self):
        """The list of the readings of all beats done."""
        return [row[1] for row in self._done]

    @property
    def opened(self):
        """The list of the opened rows of all beats done."""
        return [row[2] for row in self._done]

    @property
    def used(self):
        """How many tape bits have been used, with the door."""
        return self._done[-1][3] if self._done else self._cover.door_coins

    @property
    def ends(self):
        """The list of how many tape bits had been used at the end of each beat done."""
        return [row[3] for row in self._done]

    def step(self):
        """Does one beat and returns its reading."""
        self._check_next()
        rule = self._rule
        return self.step_with(rule(self.beat, self.readings, self.opened))

    def step_with(self, looks):
        """Does one beat with looks that are told, without asking the rule, and returns its reading."""
        row, last = self._worked(looks)
        self._done = (*self._done, row)
        self._last = last
        return row[1]

    def go(self, beats):
        """Does so many beats, or none at all if one of them cannot be done."""
        check_beats(beats)
        done_before = self._done
        last_before = self._last
        whole = None
        # Errors of the rule are not known by name, so that they cannot be caught.
        try:
            for _ in range(beats):
                self.step()
            whole = True
        finally:
            if whole is None:
                self._done = done_before
                self._last = last_before

    def glance(self, looks):
        """The pair (reading, opened row) that the next beat would give with these looks."""
        row, _ = self._worked(looks)
        return (row[1], row[2])

    def worth(self, look):
        """The bit of any look of the last beat."""
        if self._last is None or not self._sight(self.beat - 1).shows(look):
            raise BadLook(look)
        return self._last.look_bit(look_row(look))

    def parts(self, wire):
        """The tuple of the parts of a wire in the last beat."""
        if self._last is None or wire not in self._cover.circuit:
            raise NoWire(wire)
        return self._last.wire_parts[wire]

    def branch(self):
        """Another run that stands the same, with the same rule; both go on apart."""
        cover = self._cover
        other = Run(cover.circuit, self._secrets, self._tape, t=self.t, rule=self._rule, pieces=cover.laid,
                    parts=self._bare_parts, refresh=cover.refresh)
        other._done = self._done
        other._last = self._last
        return other

    def _sight(self, at):
        return Sight(self._cover.circuit, at, self._cover.n, self._cover.refresh, self._cover.laid)

    def _check_next(self):
        # What may stand against the next beat before anything is looked at.
        at = self.beat
        if at == MOST_BEATS:
            raise TooMany("beats", at + 1)
        if self._cover.in_names and at >= len(self._secrets.later()):
            raise BadSecrets("later")
        if len(self._tape) - self.used < self._cover.needed(at):
            raise TapeEnds(at)

    def _unlike_looks(self, looks):
        if not isinstance(looks, (list, tuple)):
            raise BadLook(looks)
        sight = self._sight(self.beat)
        for look in looks:
            if not sight.shows(look):
                raise BadLook(look)
        unlike = tuple({look: True for look in looks})
        if len(unlike) > self.t:
            raise TooMany("looks", len(unlike))
        return unlike

    def _worked(self, looks):
        # What the next beat adds to the beats done, and the beat itself.
        self._check_next()
        told = self._unlike_looks(looks)
        at = self.beat
        cover = self._cover
        before = self._door if self._last is None else self._last.wire_parts
        row = self._secrets.later()[at] if cover.in_names else ()
        beat = Beat(cover, at, before, row, self._tape.bits())
        reading = tuple([beat.look_bit(look_row(look)) for look in told])
        opened = tuple([parity(beat.wire_parts[wire]) for wire in cover.circuit.opens()])
        return (told, reading, opened, self.used + cover.needed(at)), beat
