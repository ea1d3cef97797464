"""Cones: the positions of a tape on which a look can hang by the lines alone."""

from needleblind.covers import Cover
from needleblind.errors import BadLook, BadNumber
from needleblind.looks import REFRESH_KINDS, house_look, is_look
from needleblind.names import is_number
from needleblind.pairs import pair_place
from needleblind.plain import MOST_BEATS


def cone(circuit, look, at, *, parts=4, refresh=True):
    """The ascending list of the positions in the cone of a look in beat at."""
    if not is_number(at, 0, MOST_BEATS - 1):
        raise BadNumber(at)
    if not is_look(circuit, look, at, parts=parts, refresh=refresh):
        raise BadLook(look)
    trace = Trace(Cover(circuit, parts, refresh=refresh))
    trace.begin_at(house_look(look), at)
    for beat in reversed(range(at + 1)):
        trace.pass_back(beat)
    return sorted(trace.positions)


def refresh_needs(kind, i, j, n):
    """The pair (coins, numbers of parts) that a look turn or row has in its cone."""
    if kind == "turn":
        return ([pair_place(i, j, n)], [])
    return ([pair_place(i, m, n) for m in range(j + 1) if m != i], [i])


def product_needs(kind, i, j, n):
    """The tuple (coins, numbers of parts of the first wire, and of the second one) that a look at a product has."""
    if kind == "sum":
        added = [m for m in range(j + 1) if m != i] if j != i else []
        # What is added of a lesser number is a wire back, which has both parts of both numbers.
        numbers = [i, *[m for m in added if m < i]]
        return ([pair_place(i, m, n) for m in added], numbers, numbers)
    if kind == "prod":
        return ([], [i], [j])
    coins = [pair_place(i, j, n)]
    if kind == "coin":
        return (coins, [], [])
    return (coins, [i], [j]) if kind == "half" else (coins, [i, j], [i, j])


def last_added(i, n):
    """The greatest number that is added to part i; with it the part is whole."""
    return n - 1 if i < n - 1 else n - 2


class Trace:
    """Goes back from a look, beat by beat, and keeps the positions that it meets."""

    def __init__(self, cover):
        n = cover.n
        self.cover = cover
        # A dict, so that each position is kept once.
        self.positions = {}
        # By each wire, the numbers of its parts that are needed: in the beat that is passed next, in the one before it.
        self.wanted = {}
        self.wanted_before = {}
        self.row_needs = [refresh_needs("row", i, last_added(i, n), n) for i in range(n)]
        self.sum_needs = [product_needs("sum", i, last_added(i, n), n) for i in range(n)]

    def begin_at(self, row, at):
        """Takes the look itself, told as house_look tells it."""
        kind, wire = row[:2]
        if kind == "part":
            _want(self.wanted, wire, [row[2]])
        elif kind in REFRESH_KINDS:
            self.need_refresh(wire, at, refresh_needs(kind, row[2], row[3], self.cover.n))
        else:
            self.need_product(wire, at, product_needs(kind, row[2], row[3], self.cover.n))

    def need_refresh(self, wire, at, needs):
        """Takes what refresh_needs tells of a cell."""
        coins, numbers = needs
        self.keep(self.first_position(wire, at), coins)
        _want(self.wanted_before, self.cover.reads[wire][0], numbers)

    def need_product(self, wire, at, needs):
        """Takes what product_needs tells of an and gate."""
        coins, first, second = needs
        self.keep(self.first_position(wire, at), coins)
        _want(self.wanted, self.cover.reads[wire][0], first)
        _want(self.wanted, self.cover.reads[wire][1], second)

    def first_position(self, wire, at):
        """The position of the first coin of a wire in a beat."""
        return self.cover.begin(at) + self.cover.spans(at)[wire][0]

    def keep(self, begin, coins):
        """Keeps the positions of some coins, which are counted from begin on."""
        for coin in coins:
            self.positions[begin + coin] = True

    def numbers_of(self, wire):
        """The list of the parts of a wire that are needed in this beat."""
        return sorted(self.wanted.get(wire, {}))

    def pass_back(self, at):
        """Passes a beat: what is needed in it is kept, or is needed in the beat before."""
        # What a gate reads stands ahead of it.
        for name, kind, a, b in self.cover.gate_rows[::-1]:
            self.pass_gate(name, kind, a, b, at)
        for name in self.cover.in_names:
            self.pass_parting(name, self.first_position(name, at))
        if at == 0:
            for place, name in enumerate(self.cover.circuit.secret_cells()):
                self.pass_parting(name, place * (self.cover.n - 1))
        else:
            for name, _, source in self.cover.cell_rows:
                self.pass_cell(name, source, at)
        self.wanted = self.wanted_before
        self.wanted_before = {}

    def pass_gate(self, name, kind, a, b, at):
        """Passes a gate."""
        numbers = self.numbers_of(name)
        if kind == "and":
            for number in numbers:
                self.need_product(name, at, self.sum_needs[number])
            return
        _want(self.wanted, a, numbers)
        if kind == "xor":
            _want(self.wanted, b, numbers)

    def pass_parting(self, name, begin):
        """Passes a bit that is parted with the coins from a position on."""
        many = self.cover.n - 1
        for number in self.numbers_of(name):
            self.keep(begin, [number] if number < many else list(range(many)))

    def pass_cell(self, name, source, at):
        """Passes a cell, but not in beat 0."""
        numbers = self.numbers_of(name)
        if not self.cover.refresh:
            _want(self.wanted_before, source, numbers)
            return
        for number in numbers:
            self.need_refresh(name, at, self.row_needs[number])


def _want(wanted, wire, numbers):
    parts = wanted.setdefault(wire, {})
    for number in numbers:
        parts[number] = True
