"""Circuits that open the same rows for all secrets, and the first secrets with which two others part."""

from needleblind.bits import bit_rows
from needleblind.columns import columns
from needleblind.errors import NotAlike, TooMany
from needleblind.plain import Secrets

MOST_CELLS = 12
MOST_INS = 4


def same(one, other):
    """None if two circuits are the same, otherwise the first parting secrets."""
    _check_alike(one, other)
    couple = Couple(one, other)
    first = couple.parting_first()
    return None if first is None else Secrets(first, couple.parting_later(first))


def _check_alike(one, other):
    if len(one.secret_cells()) != len(other.secret_cells()):
        raise NotAlike("secrets")
    if len(one.ins()) != len(other.ins()):
        raise NotAlike("ins")
    if len(one.opens()) != len(other.opens()):
        raise NotAlike("opens")
    many = len(one.cells()) + len(other.cells())
    if many > MOST_CELLS:
        raise TooMany("cells", many)
    if len(one.ins()) > MOST_INS:
        raise TooMany("ins", len(one.ins()))


class Table:
    """What a circuit does in a beat.

    A state is the number of the bits of its cells, the first one the highest, and so is a row of ins.
    """

    def __init__(self, circuit):
        cells = circuit.cells()
        ins = circuit.ins()
        sources = [source for _, _, source in cells]
        opened = circuit.opens()
        found = columns([*[cell[0] for cell in cells], *ins], circuit.gates(), [*sources, *opened], {})
        many = 1 << (len(cells) + len(ins))
        self.state_bits = len(cells)
        self.in_bits = len(ins)
        self.firsts = [first for _, first, _ in cells]
        self.coming = _numbers_of([found[wire] for wire in sources], many)
        self.opening = _numbers_of([found[wire] for wire in opened], many)

    def start(self, row):
        """The state in beat 0 with a first row."""
        state = 0
        used = 0
        for first in self.firsts:
            bit = first
            if first is None:
                bit = row[used]
                used += 1
            state = 2 * state + bit
        return state

    def behind(self, state, ins):
        """The state behind a beat with a row of ins."""
        return self.coming[(state << self.in_bits) + ins]

    def opened_number(self, state, ins):
        """The opened row of a beat, as a number."""
        return self.opening[(state << self.in_bits) + ins]


def _numbers_of(bit_columns, many):
    # The numbers whose bits stand in columns, the highest one first.
    numbers = [0] * many
    for bits in bit_columns:
        numbers = [2 * number + bit for number, bit in zip(numbers, bits)]
    return numbers


class Couple:
    """Two circuits that are run beside each other; a pair has a state of each."""

    def __init__(self, one, other):
        self.one = Table(one)
        self.other = Table(other)
        secrets = len(one.secret_cells())
        ins = len(one.ins())
        self.first_rows = list(bit_rows(secrets))
        self.in_rows = list(bit_rows(ins))
        self.left = self.rows_left([self.start(row) for row in self.first_rows])

    def start(self, row):
        """The pair in beat 0 with a first row."""
        return (self.one.start(row), self.other.start(row))

    def behind(self, pair, ins):
        """The pair behind a beat with a row of ins, which is told by its number."""
        return (self.one.behind(pair[0], ins), self.other.behind(pair[1], ins))

    def part(self, pair, ins):
        """Whether the two part in a beat with a row of ins."""
        return self.one.opened_number(pair[0], ins) != self.other.opened_number(pair[1], ins)

    def reached_from(self, starts):
        """A dict from each pair that may come to the list of the pairs that it may come from."""
        found = {pair: [] for pair in starts}
        level = list(found)
        while level:
            coming = []
            for pair in list(level):
                for ins in range(len(self.in_rows)):
                    behind = self.behind(pair, ins)
                    if behind not in found:
                        found[behind] = []
                        coming.append(behind)
                    found[behind].append(pair)
            level = coming
        return found

    def rows_left(self, starts):
        """A dict from each pair behind which the two part to the least number of later rows that this takes."""
        came_from = self.reached_from(starts)
        level = [pair for pair in came_from if any([self.part(pair, ins) for ins in range(len(self.in_rows))])]
        found = {}
        many = 1
        while level:
            for pair in level:
                found[pair] = many
            ahead = [before for pair in level for before in came_from[pair] if before not in found]
            # Each of them once, by a dict.
            level = list({pair: True for pair in ahead})
            many += 1
        return found

    def parting_first(self):
        """The first row of the first parting secrets, or None if the circuits are the same."""
        parting = [row for row in self.first_rows if self.start(row) in self.left]
        if not parting:
            return None
        fewest = min([self.left[self.start(row)] for row in parting])
        return [row for row in parting if self.left[self.start(row)] == fewest][0]

    def parting_later(self, first):
        """The later rows of the first parting secrets."""
        pair = self.start(first)
        rows = []
        for many in reversed(range(self.left[pair])):
            ins = self.least_ins(pair, many)
            rows.append(self.in_rows[ins])
            pair = self.behind(pair, ins)
        return rows

    def least_ins(self, pair, many):
        """The least row of ins that leaves so many later rows to go, by its number."""
        for ins in range(len(self.in_rows)):
            if many == 0 and self.part(pair, ins):
                return ins
            if many > 0 and self.left.get(self.behind(pair, ins)) == many:
                return ins
        return None
