"""Twins: the tape with which other secrets show the same readings."""

from needleblind.covers import Cover, check_pieces, part_count
from needleblind.errors import Parted
from needleblind.looks import line_look
from needleblind.numbers import least_outside, lot_of, numbers_looked, turned_door, turned_product, turned_refresh
from needleblind.plain import check_beats, check_fit, differences, first_parting
from needleblind.ranks import like_rank
from needleblind.runs import Run, check_t


class Twin:
    """The twin of a tape, which never changes."""

    def __init__(self, tape, ks, turned):
        self.tape = tape
        self.ks = ks
        self.turned = turned


def twin(circuit, one, other, tape, *, t=1, rule, beats, pieces=None):
    """The twin with which the secrets other show what one show with the tape."""
    laid = _laid_pieces(circuit, (one, other), t, beats, pieces)
    parting = first_parting(circuit, one, other, beats)
    if parting is not None:
        raise Parted(parting)
    run = Run(circuit, one, tape, t=t, rule=rule, pieces=laid)
    turner = Turner(Cover(circuit, part_count(t), pieces=laid), tape)
    for turns in differences(circuit, one, other, beats):
        run.step()
        turner.keep(turns, {wire: run.parts(wire) for wire in turns}, run.looked[-1])
    ks = kept_numbers(run.looked, part_count(t), laid)
    turned = turner.turned_at_door(one.first(), other.first(), ks[0])
    for at in range(beats):
        turned.extend(turner.turned_in(at, ks))
    return Twin(tape.flipped(turned), ks, tuple(sorted(turned)))


def alike(circuit, one, other, first, second, *, t=1, rule, beats, pieces=None):
    """Whether the run with the secrets one and the tape first shows the same as that with other and second."""
    laid = _laid_pieces(circuit, (one, other), t, beats, pieces)
    shown = []
    for secrets, tape in ((one, first), (other, second)):
        run = Run(circuit, secrets, tape, t=t, rule=rule, pieces=laid)
        run.go(beats)
        shown.append((run.looked, run.readings, run.opened))
    return shown[0] == shown[1]


def _laid_pieces(circuit, both, t, beats, pieces):
    # A dict of the pieces, when all that is asked ahead of the runs has been asked.
    check_t(t)
    check_beats(beats)
    for secrets in both:
        check_fit(circuit, secrets, beats)
    laid = {} if pieces is None else dict(pieces)
    check_pieces(circuit, laid, t)
    return laid


def kept_numbers(looked, n, laid):
    """The tuple of the number of each beat that no look of this beat, and no refresh looked at in the next, touches."""
    told = [numbers_looked(looks, pieces=laid) for looks in looked]
    coming = [*[refreshed for _, refreshed in told[1:]], ()]
    ks = [least_outside([*numbers, *refreshed], n) for (numbers, _), refreshed in zip(told, coming)]
    return tuple(ks) if ks else (0,)


class Turner:
    """Finds the positions of a tape that the twin turns, from what was kept of each beat of the run."""

    def __init__(self, cover, tape):
        self.cover = cover
        self.tape_bits = tape.bits()
        # By beat, for each wire: its difference, its parts.
        self.turns = []
        self.beat_parts = []
        # By beat, for each wire with looks line: their lines.
        self.lines_seen = []

    def keep(self, turns, wire_parts, looks):
        """Keeps what a beat of the run told."""
        self.turns.append(turns)
        self.beat_parts.append(wire_parts)
        seen = {}
        for row in [line_look(look) for look in looks]:
            if row is not None:
                seen.setdefault(row[1], []).append(row[2])
        self.lines_seen.append(seen)

    def turned_at_door(self, first, others, k):
        """The positions at the door, for the two first rows."""
        n = self.cover.n
        found = []
        for place, bit in enumerate(first):
            found.extend([place * (n - 1) + coin for coin in turned_door(bit ^ others[place], k, n)])
        return found

    def turned_in(self, at, ks):
        """The positions in a beat, ascending."""
        found = []
        for wire, (first, _) in self.cover.spans(at).items():
            begin = self.cover.begin(at) + first
            found.extend([begin + coin for coin in self.turned_coins(wire, at, ks)])
        return found

    def turned_coins(self, wire, at, ks):
        """The coins of a wire that are turned, counted from its first one."""
        n = self.cover.n
        kind = self.cover.circuit.kind_of(wire)
        if kind == "in":
            return turned_door(self.turns[at][wire], ks[at], n)
        if kind == "cell":
            d = self.turns[at][wire]
            if wire in self.cover.laid:
                return self.like_coins(wire, at, at - 1, [d], ks[at - 1], ks[at])
            return turned_refresh(d, ks[at - 1], ks[at], n)
        a, b = self.cover.reads[wire]
        da, db = self.turns[at][a], self.turns[at][b]
        if wire in self.cover.laid:
            return self.like_coins(wire, at, at, [da, db], ks[at], ks[at])
        return turned_product(da, db, self.beat_parts[at][a], self.beat_parts[at][b], ks[at])

    def like_coins(self, wire, at, read_at, ds, k, q):
        """The coins of a piece that are turned, where number k of its inputs turns, and number q of its outs."""
        if 1 not in ds:
            return []
        rows = [self.beat_parts[read_at][name] for name in self.cover.reads[wire]]
        parts = [part for row in rows for part in row]
        others = list(parts)
        for place, d in enumerate(ds):
            others[place * self.cover.n + k] ^= d
        first, end = self.cover.spans(at)[wire]
        begin = self.cover.begin(at)
        coins = self.tape_bits[begin + first:begin + end]
        taken = self.cover.laid[wire]
        lot = lot_of(taken.piece, self.lines_seen[at].get(wire, []))
        twin_coins = like_rank(taken, parts, others, coins, lot=lot, without=q)
        return [coin for coin, bit in enumerate(coins) if bit != twin_coins[coin]]
