"""Tapes: rows of coins, and the parts that are made with them."""

from needleblind.bits import parity
from needleblind.errors import BadTape, NoBit, TooMany
from needleblind.names import is_bits, is_number


class Tape:
    """A row of bits, which never changes."""

    MOST = 1000000

    def __init__(self, bits):
        if not is_bits(bits):
            raise BadTape(bits)
        if len(bits) > Tape.MOST:
            raise TooMany("tape", len(bits))
        self._bits = tuple(bits)

    @staticmethod
    def read(text):
        """The tape of a string of 0 and 1."""
        if not isinstance(text, str) or not all([sign in "01" for sign in text]):
            raise BadTape(text)
        return Tape([int(sign) for sign in text])

    def __eq__(self, other):
        return isinstance(other, Tape) and self._bits == other._bits

    def __xor__(self, other):
        if not isinstance(other, Tape) or len(other._bits) != len(self._bits):
            raise BadTape(other)
        return Tape([bit ^ turn for bit, turn in zip(self._bits, other._bits)])

    def __getitem__(self, at):
        if not is_number(at, 0, len(self._bits) - 1):
            raise NoBit(at)
        return self._bits[at]

    def __iter__(self):
        return iter(self._bits)

    def __len__(self):
        return len(self._bits)

    def __str__(self):
        return str(self.text())

    def __repr__(self):
        return f"Tape({len(self._bits)} bits)"

    def text(self):
        """The string of the bits."""
        return "".join([str(bit) for bit in self._bits])

    def bits(self):
        """The tuple of the bits."""
        return self._bits

    def flipped(self, positions):
        """The tape with the bits at some unlike positions turned."""
        turned = list(self._bits)
        for at in positions:
            if not is_number(at, 0, len(turned) - 1):
                raise NoBit(at)
            turned[at] = 1 - self._bits[at]
        return Tape(turned)


def parted(bit, coins):
    """The tuple of the parts of a bit."""
    return (*coins, bit ^ parity(coins))


def begun(bit, n):
    """The parts of an open cell in beat 0."""
    return tuple([bit] + [0] * (n - 1))


def joined(parts):
    """The bit whose parts these are."""
    return parity(parts)


def bits_needed(circuit, beats, *, parts=4, refresh=True, pieces=None):
    """How many tape bits a run of so many beats uses, with so many parts."""
    laid = {} if pieces is None else pieces
    door = len(circuit.secret_cells()) * (parts - 1)
    if beats == 0:
        return door
    each_beat = len(circuit.ins()) * (parts - 1)
    each_beat += sum([coins_at(name, parts, laid) for name, kind, _, _ in circuit.gates() if kind == "and"])
    between = sum([coins_at(name, parts, laid) for name, _, _ in circuit.cells()]) if refresh else 0
    return door + each_beat * beats + between * (beats - 1)


def coins_at(name, parts, laid):
    """How many coins an and gate uses, or the refresh of a cell, with a dict of the pieces that are laid."""
    return len(laid[name].piece.coins()) if name in laid else parts * (parts - 1) // 2
