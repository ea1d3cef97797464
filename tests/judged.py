"""Judging by plain counting, pair of rows by pair of rows, to compare with."""

import functools
import itertools
from collections import Counter

from support import piece_bits


def rows_of(many):
    return list(itertools.product((0, 1), repeat=many))


@functools.cache
def rows_by_text(many):
    return {strict(row): row for row in rows_of(many)}


class Counted:
    """The readings of a piece's text, counted anew for each question; the wires are kept."""

    def __init__(self, text):
        self.text = text
        head, *self.lines = [line.split() for line in text.splitlines()]
        self.kind, self.n = head[1], int(head[2])
        self.outs = self.lines.pop()[1:]
        self.names = [line[1] if line[0] == "coin" and line[1] != "=" else line[0] for line in self.lines]
        self.coins = [line[1] for line in self.lines if line[0] == "coin"]
        self.parts = rows_of(self.n * (2 if self.kind == "product" else 1))
        self.bits = {row: [piece_bits(text, row, coins) for coins in rows_of(len(self.coins))] for row in self.parts}
        self.counted = {}

    def readings(self, lot, row, without):
        wires = list(lot) + [wire for at, wire in enumerate(self.outs) if at != without]
        return [tuple(bits[wire] for wire in wires) for bits in self.bits[row]]

    def counts(self, lot, row, without):
        key = lot if isinstance(lot, tuple) else tuple(lot), row, without
        if key not in self.counted:
            self.counted[key] = Counter(self.readings(lot, row, without))
        return self.counted[key]

    def wrong(self):
        for row in self.parts:
            right = sum(row) % 2
            if self.kind == "product":
                right = sum(row[:self.n]) * sum(row[self.n:]) % 2
            for coins, bits in zip(rows_of(len(self.coins)), self.bits[row]):
                if sum(bits[wire] for wire in self.outs) % 2 != right:
                    return row, coins
        return None

    def items(self):
        numbers = range(self.n)
        return list(numbers) if self.kind == "product" else list(itertools.product(numbers, numbers))

    def places(self, item):
        """The places of a row of parts that may differ, and the number that is left out."""
        return ((item, item + self.n), item) if self.kind == "product" else ((item[0],), item[1])

    def alike(self, item, first, second):
        places, _ = self.places(item)
        return first != second and all(first[at] == second[at] for at in range(len(first)) if at not in places)

    def shown(self, lot):
        """For each bad item what a paper tells of it."""
        found = []
        for item in self.items():
            _, without = self.places(item)
            told = {row: self.counts(lot, row, without) for row in self.parts}
            for first, second in itertools.combinations(self.parts, 2):
                if self.alike(item, first, second) and told[first] != told[second]:
                    reading = min(reading for reading in {**told[first], **told[second]}
                                  if told[first][reading] != told[second][reading])
                    found.append((item, first, second, reading, told[first][reading], told[second][reading]))
                    break
        return tuple(found)

    def bad(self, lot):
        return tuple(entry[0] for entry in self.shown(lot))

    def numbers(self, items):
        return tuple(items) if self.kind == "product" else meeting(items)

    def allowed(self, lot):
        return len(lot) * (2 if self.kind == "product" else 1)

    def lots(self, t):
        return [lot for many in range(t + 1) for lot in itertools.combinations(self.names, many)]

    def is_lot(self, value, t):
        return strict(value) in {strict(lot) for lot in self.lots(t)}

    def paper(self, t):
        """The paper of a piece that is refused, or None."""
        wrong = self.wrong()
        if wrong is not None:
            return ("wrong", *wrong)
        for lot in self.lots(t):
            shown = self.shown(lot)
            numbers = self.numbers([entry[0] for entry in shown])
            if len(numbers) > self.allowed(lot):
                return ("lot", lot, numbers, shown)
        return None


def meeting(pairs):
    for many in range(11):
        for chosen in itertools.combinations(range(10), many):
            if all(set(pair) & set(chosen) for pair in pairs):
                return chosen
    return None


def strict(value):
    """A text that tells values apart that are equal in Python."""
    if isinstance(value, (tuple, list)):
        return f"{type(value).__name__}({','.join(strict(item) for item in value)})"
    return f"{type(value).__name__}:{value!r}"


def truly_holds(counted, paper, t):
    """Whether a paper holds, asked in another way: what it should be is made anew and compared strictly."""
    if type(paper) is not tuple or not paper:
        return False
    if len(paper) == 3 and strict(paper[0]) == "str:'wrong'":
        for row in counted.parts:
            for coins, bits in zip(rows_of(len(counted.coins)), counted.bits[row]):
                right = sum(row) % 2
                if counted.kind == "product":
                    right = sum(row[:counted.n]) * sum(row[counted.n:]) % 2
                if strict(paper) == strict(("wrong", row, coins)):
                    return sum(bits[wire] for wire in counted.outs) % 2 != right
        return False
    if len(paper) != 4 or strict(paper[0]) != "str:'lot'":
        return False
    _, lot, numbers, shown = paper
    if not counted.is_lot(lot, t) or type(shown) is not tuple:
        return False
    items = []
    for entry in shown:
        if type(entry) is not tuple or len(entry) != 6:
            return False
        items.append(entry[0])
        if strict(entry[0]) not in [strict(item) for item in counted.items()]:
            return False
        rows = [rows_by_text(len(counted.parts[0])).get(strict(side)) for side in entry[1:3]]
        if None in rows or not counted.alike(entry[0], *rows):
            return False
        without = counted.places(entry[0])[1]
        reading = rows_by_text(len(lot) + counted.n - 1).get(strict(entry[3]))
        if reading is None:
            return False
        many = [counted.counts(lot, row, without)[reading] for row in rows]
        if strict(many) != strict(list(entry[4:])) or many[0] == many[1]:
            return False
    if items != sorted(set(items)) or strict(numbers) != strict(counted.numbers(items)):
        return False
    return len(numbers) > counted.allowed(lot)
