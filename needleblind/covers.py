"""Covered circuits: where their coins stand on a tape, and the parts of their wires in a beat."""

from needleblind.errors import NotTaken
from needleblind.gates import not_parts, product_parts, product_wires, refresh_parts, refresh_wires, xor_parts
from needleblind.judging import Taken
from needleblind.tapes import begun, coins_at, parted


def part_count(t):
    """The number of parts of a run that may be looked at t times in each beat."""
    return 3 * t + 1


def check_pieces(circuit, pieces, t):
    """Raises NotTaken with the least name of a dict at which its value cannot be laid."""
    wrong = [name for name, value in pieces.items() if not _may_lie(circuit, name, value, t)]
    if wrong:
        raise NotTaken(min(wrong))


def _may_lie(circuit, name, value, t):
    if not isinstance(value, Taken) or value.t != t or value.piece.n != part_count(t):
        return False
    return (circuit.kind_of(name), value.piece.kind) in (("and", "product"), ("cell", "refresh"))


class Cover:
    """How a circuit is covered: the number of its parts, whether cells are refreshed, and the pieces that are laid."""

    def __init__(self, circuit, n, *, refresh=True, pieces=None):
        self.circuit = circuit
        self.n = n
        self.refresh = refresh
        self.laid = {} if pieces is None else dict(pieces)
        self.cell_rows = circuit.cells()
        self.in_names = circuit.ins()
        self.gate_rows = circuit.gates()
        # What works on parts, by its wire: the wires that an and gate reads, the from-wire of a cell.
        self.reads = {name: (a, b) for name, kind, a, b in self.gate_rows if kind == "and"}
        for name, _, source in self.cell_rows:
            self.reads[name] = (source,)
        self.door_coins = len(circuit.secret_cells()) * (n - 1)
        # Who uses coins, and how many.
        users = [(name, n - 1) for name in self.in_names]
        users.extend([(gate[0], coins_at(gate[0], n, self.laid)) for gate in self.gate_rows if gate[1] == "and"])
        refreshed = [(cell[0], coins_at(cell[0], n, self.laid)) for cell in self.cell_rows] if refresh else []
        self.first_spans = _spans_of(users)
        self.later_spans = _spans_of([*refreshed, *users])
        self.first_coins = sum([many for _, many in users])
        self.later_coins = self.first_coins + sum([many for _, many in refreshed])

    def spans(self, at):
        """A dict from each wire that uses coins in a beat to the pair (its first coin, the one behind its last)."""
        return self.first_spans if at == 0 else self.later_spans

    def needed(self, at):
        """How many coins a beat uses."""
        return self.first_coins if at == 0 else self.later_coins

    def begin(self, at):
        """How many coins are used ahead of a beat, with those of the door."""
        if at == 0:
            return self.door_coins
        return self.door_coins + self.first_coins + (at - 1) * self.later_coins

    def door_parts(self, first, tape_bits):
        """A dict from each cell to its parts in beat 0, with the first row of the secrets."""
        found = {}
        used = 0
        for name, bit, _ in self.cell_rows:
            if bit is None:
                begin = used * (self.n - 1)
                found[name] = parted(first[used], tape_bits[begin:begin + self.n - 1])
                used += 1
            else:
                found[name] = begun(bit, self.n)
        return found


def _spans_of(users):
    spans = {}
    used = 0
    for name, many in users:
        spans[name] = (used, used + many)
        used += many
    return spans


class Beat:
    """A beat of a covered circuit, worked out; before has the parts of the beat before, or those of the door."""

    def __init__(self, cover, at, before, row, tape_bits):
        self.cover = cover
        self.before = before
        self.tape_bits = tape_bits
        self.first_coin = cover.begin(at)
        self.coin_spans = cover.spans(at)
        # By each wire at which was looked, the bits within its refresh, product or piece.
        self.inner = {}
        self.wire_parts = {name: self.cell_parts(name, source, at) for name, _, source in cover.cell_rows}
        for name, bit in zip(cover.in_names, row):
            self.wire_parts[name] = parted(bit, self.coins_of(name))
        for name, kind, a, b in cover.gate_rows:
            self.wire_parts[name] = self.gate_parts(name, kind, a, b)

    def coins_of(self, wire):
        """The coins that are used for a wire."""
        first, end = self.coin_spans[wire]
        return self.tape_bits[self.first_coin + first:self.first_coin + end]

    def cell_parts(self, name, source, at):
        """The parts of a cell."""
        if at == 0:
            return self.before[name]
        if not self.cover.refresh:
            return self.before[source]
        if name in self.cover.laid:
            return self.piece_outs(name, self.before[source])
        return refresh_parts(self.before[source], self.coins_of(name))

    def gate_parts(self, name, kind, a, b):
        """The parts of a gate."""
        if kind == "xor":
            return xor_parts(self.wire_parts[a], self.wire_parts[b])
        if kind == "not":
            return not_parts(self.wire_parts[a])
        if name in self.cover.laid:
            return self.piece_outs(name, (*self.wire_parts[a], *self.wire_parts[b]))
        return product_parts(self.wire_parts[a], self.wire_parts[b], self.coins_of(name))

    def piece_outs(self, name, parts):
        """The outs of the piece that is laid at a wire, for a row of its input parts."""
        piece = self.cover.laid[name].piece
        worths = piece.worths(parts, self.coins_of(name))
        return tuple([worths[wire] for wire in piece.outs()])

    def inputs(self, wire):
        """The rows of parts that a product, or the refresh of a cell, works on."""
        given = self.wire_parts if self.cover.circuit.kind_of(wire) == "and" else self.before
        return [given[name] for name in self.cover.reads[wire]]

    def look_bit(self, row):
        """What a look of this beat reads, told as look_row tells it."""
        kind, wire = row[:2]
        if kind == "part":
            return self.wire_parts[wire][row[2]]
        if wire not in self.inner:
            self.inner[wire] = self.inner_bits(wire)
        return self.inner[wire][row[2] if kind == "line" else (kind, row[2], row[3])]

    def inner_bits(self, wire):
        """The dict of the bits within the refresh, product or piece at a wire."""
        rows = self.inputs(wire)
        coins = self.coins_of(wire)
        if wire in self.cover.laid:
            return self.cover.laid[wire].piece.worths([part for parts in rows for part in parts], coins)
        if len(rows) == 1:
            return refresh_wires(rows[0], coins)
        return product_wires(rows[0], rows[1], coins)
