"""Judging: whether looks at a piece tell anything, by counting."""

from needleblind.bits import bits_of, parity
from needleblind.columns import columns
from needleblind.errors import BadNumber, TooMany
from needleblind.names import is_bits, is_number
from needleblind.readings import check_lot, check_parts, choices, reading_rows, wrong_place

GREATEST_T = 3
MOST_LOTS = 1000


def counts(piece, lot, parts, without):
    """The dict from each reading of a lot without a number, that some row of coins gives, to its count."""
    check_lot(piece, lot)
    check_parts(piece, parts)
    found = {}
    for reading in reading_rows(piece, lot, parts, without):
        found[reading] = found.get(reading, 0) + 1
    return found


def wrong_at(piece):
    """None if a piece is right, otherwise the least rows (parts, coins) where it is not."""
    names = [*piece.parts(), *piece.coins()]
    outs = piece.outs()
    found = columns(names, piece.lines(), outs, {})
    rows = [found[wire] for wire in outs]
    many = len(piece.parts())
    for at, bits in enumerate(zip(*rows)):
        row = bits_of(at, len(names))[::-1]
        if parity(bits) != right_bit(piece, row[:many]):
            return (row[:many], row[many:])
    return None


def right_bit(piece, parts):
    """The bit that the outs of a piece should stand for."""
    if piece.kind == "product":
        return parity(parts[:piece.n]) & parity(parts[piece.n:])
    return parity(parts)


def lots(piece, t):
    """All lots of 0 to t lines, in their order."""
    names = [line[0] for line in piece.lines()]
    yield from choices(names, t)


def bad_items(piece, lot):
    """The bad numbers of a product for a lot, or the bad pairs of a refresh, ascending."""
    check_lot(piece, lot)
    return Bench(piece).bad(lot)


def least_meeting(pairs):
    """The least meeting of a list of pairs of numbers."""
    numbers = sorted(set([number for pair in pairs for number in pair]))
    for chosen in choices(numbers, len(numbers)):
        if all([k in chosen or q in chosen for k, q in pairs]):
            return chosen
    return ()


def judge_piece(piece, *, t=1):
    """Whether a piece is taken at t, as a Taken or a Refused."""
    _check_t(t)
    many = _lot_count(len(piece.lines()), t)
    if many > MOST_LOTS:
        raise TooMany("lots", many)
    wrong = wrong_at(piece)
    if wrong is not None:
        return Refused(piece, t, ("wrong", *wrong))
    bench = Bench(piece)
    found = {}
    for lot in lots(piece, t):
        bad = bench.bad(lot)
        numbers = _numbers_of(piece, bad)
        if len(numbers) > _allowed(piece, lot):
            return Refused(piece, t, ("lot", lot, numbers, bench.entries(lot, bad)))
        found[lot] = numbers
    return Taken(piece, t, found)


def _check_t(t):
    if not is_number(t, 1, GREATEST_T):
        raise BadNumber(t)


def _lot_count(many, t):
    total = 1
    with_so_many = 1
    for at in range(t):
        with_so_many = with_so_many * (many - at) // (at + 1)
        total += with_so_many
    return total


def _numbers_of(piece, items):
    return tuple(items) if piece.kind == "product" else least_meeting(items)


def _allowed(piece, lot):
    # How many numbers a lot of a taken piece may have.
    return 2 * len(lot) if piece.kind == "product" else len(lot)


class Taken:
    """A piece that is taken at t."""

    def __init__(self, piece, t, found):
        self.piece = piece
        self.t = t
        self._found = found

    def numbers(self, lot):
        """The tuple of the numbers of a lot of at most t lines."""
        check_lot(self.piece, lot)
        if len(lot) > self.t:
            raise TooMany("looks", len(lot))
        return self._found[tuple(lot)]

    def is_taken(self):
        """True."""
        return True


class Refused:
    """A piece that is not taken at t."""

    def __init__(self, piece, t, paper):
        self.piece = piece
        self.t = t
        self._paper = paper

    def paper(self):
        """The paper that tells why."""
        return self._paper

    def is_taken(self):
        """False."""
        return False


class Bench:
    """The bits of a piece for all rows of parts and coins, and what they tell of lots.

    A row of parts is told by its number, the first part the highest bit, and so is a reading.
    """

    def __init__(self, piece):
        self.piece = piece
        self.part_bits = len(piece.parts())
        self.coin_bits = len(piece.coins())
        names = [*piece.parts(), *piece.coins()]
        wanted = [*piece.parts(), *[line[0] for line in piece.lines()]]
        self.found = columns(names, piece.lines(), wanted, {})
        self.row_pairs = [self.pairs_of(k) for k in range(piece.n)]
        self.out_numbers = [self.numbers_in(self.other_outs(q)) for q in range(piece.n)]

    def other_outs(self, without):
        """The outs except one."""
        outs = self.piece.outs()
        return [*outs[:without], *outs[without + 1:]]

    def numbers_in(self, wires):
        """For each row, the number of the bits of some wires, the first one the highest."""
        numbers = [0] * (1 << (self.part_bits + self.coin_bits))
        for wire in wires:
            numbers = [2 * number + bit for number, bit in zip(numbers, self.found[wire])]
        return numbers

    def pairs_of(self, k):
        """The pairs of rows of parts, ascending, that are alike but for the parts of number k, 0 in the first row."""
        masks = [1 << (self.part_bits - 1 - k)]
        if self.piece.kind == "product":
            other = masks[0] >> self.piece.n
            masks = [other, masks[0], masks[0] + other]
        pairs = []
        for row in range(1 << self.part_bits):
            # If two other rows have unlike readings, one of them has others than the row with 0 there as well.
            if row & masks[-1] == 0:
                pairs.extend([(row, row + mask) for mask in masks])
        return pairs

    def parts_row(self, row):
        """The row of parts with a number."""
        return bits_of(row, self.part_bits)[::-1]

    def bad(self, lot):
        """The tuple of the bad items for a lot, ascending."""
        places = range(self.piece.n)
        if self.piece.kind == "product":
            return tuple([k for k in places if self.first_pair(k, self.sorted_readings(lot, k)) is not None])
        items = []
        for q in places:
            readings = self.sorted_readings(lot, q)
            items.extend([(k, q) for k in places if self.first_pair(k, readings) is not None])
        return tuple(sorted(items))

    def sorted_readings(self, lot, without):
        """For each row of parts, the numbers of the readings that the rows of coins give, in order."""
        size = 1 << self.coin_bits
        numbers = self.out_numbers[without]
        if lot:
            # The lot stands ahead of the outs in a reading.
            ahead = 1 << (self.piece.n - 1)
            numbers = [number + ahead * high for number, high in zip(numbers, self.numbers_in(lot))]
        return [sorted(numbers[at:at + size]) for at in range(0, len(numbers), size)]

    def first_pair(self, k, readings):
        """The least pair of rows of parts, unlike at number k alone, with unlike readings, or None."""
        for first, second in self.row_pairs[k]:
            if readings[first] != readings[second]:
                return (first, second)
        return None

    def entries(self, lot, bad):
        """What a paper tells of each bad item."""
        return tuple([self.entry_of(lot, item) for item in bad])

    def entry_of(self, lot, item):
        """The tuple (item, first, second, reading, first count, second count)."""
        k, without = (item, item) if self.piece.kind == "product" else item
        readings = self.sorted_readings(lot, without)
        first, second = self.first_pair(k, readings)
        number = _least_unlike(readings[first], readings[second])
        reading = bits_of(number, len(lot) + self.piece.n - 1)[::-1]
        many = (readings[first].count(number), readings[second].count(number))
        return (item, self.parts_row(first), self.parts_row(second), reading, *many)


def _least_unlike(numbers, others):
    # Both rows are sorted and of one length: up to where they first differ, all counts are alike.
    for number, other in zip(numbers, others):
        if number != other:
            return min(number, other)
    return None


def holds(piece, paper, *, t=1):
    """Whether any value is a paper that holds for a piece at t."""
    _check_t(t)
    if not isinstance(paper, tuple) or not paper or not isinstance(paper[0], str):
        return False
    if paper[0] == "wrong" and len(paper) == 3:
        return _is_wrong(piece, paper[1], paper[2])
    if paper[0] == "lot" and len(paper) == 4:
        return _is_lot(piece, paper[1], t) and _is_too_many(piece, paper[1], paper[2], paper[3])
    return False


def _is_row(value, many):
    return isinstance(value, tuple) and is_bits(value, many)


def _is_wrong(piece, parts, coins):
    if not _is_row(parts, len(piece.parts())) or not _is_row(coins, len(piece.coins())):
        return False
    worths = piece.worths(parts, coins)
    return parity([worths[wire] for wire in piece.outs()]) != right_bit(piece, parts)


def _is_lot(piece, value, t):
    return isinstance(value, tuple) and len(value) <= t and wrong_place(piece, value) is None


def _is_too_many(piece, lot, numbers, shown):
    if not isinstance(numbers, tuple) or not all([_is_place(piece, number) for number in numbers]):
        return False
    if not isinstance(shown, tuple) or not all([_is_shown(piece, lot, entry) for entry in shown]):
        return False
    items = [entry[0] for entry in shown]
    if items != sorted(set(items)) or numbers != _numbers_of(piece, items):
        return False
    return len(numbers) > _allowed(piece, lot)


def _is_place(piece, value):
    return is_number(value, 0, piece.n - 1)


def _is_item(piece, value):
    if piece.kind == "product":
        return _is_place(piece, value)
    return isinstance(value, tuple) and len(value) == 2 and all([_is_place(piece, number) for number in value])


def _is_shown(piece, lot, entry):
    # Whether it is a tuple that shows, for rows of parts in either order, that its item is bad.
    if not isinstance(entry, tuple) or len(entry) != 6 or not _is_item(piece, entry[0]):
        return False
    item, first, second, reading, first_count, second_count = entry
    k, without = (item, item) if piece.kind == "product" else item
    if not _are_unlike_at(piece, k, first, second) or not _is_row(reading, len(lot) + piece.n - 1):
        return False
    for row, many in ((first, first_count), (second, second_count)):
        if not is_number(many, 0, 1 << len(piece.coins())) or many != counts(piece, lot, row, without).get(reading, 0):
            return False
    return first_count != second_count


def _are_unlike_at(piece, k, first, second):
    many = len(piece.parts())
    if not _is_row(first, many) or not _is_row(second, many) or first == second:
        return False
    return all([at % piece.n == k or first[at] == second[at] for at in range(many)])
