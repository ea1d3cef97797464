"""Plain runs: circuits that are done bit by bit, with nothing covered."""

from needleblind.columns import do_gates
from needleblind.errors import BadNumber, BadSecrets, NoWire, TooMany
from needleblind.names import is_bits, is_number

MOST_BEATS = 64


class Secrets:
    """The secrets of a circuit, which never change."""

    def __init__(self, first, later=()):
        if not is_bits(first):
            raise BadSecrets("first")
        if not isinstance(later, (list, tuple)) or not all([is_bits(row) for row in later]):
            raise BadSecrets("later")
        self._first = tuple(first)
        self._later = tuple([tuple(row) for row in later])

    def __eq__(self, other):
        return isinstance(other, Secrets) and self._first == other._first and self._later == other._later

    def __repr__(self):
        return f"Secrets({len(self._first)} bits, {len(self._later)} rows)"

    def first(self):
        """The first row."""
        return self._first

    def later(self):
        """The tuple of the later rows."""
        return self._later

    def fits(self, circuit, beats):
        """Whether they fit a circuit for so many beats."""
        if _wrong_part(circuit, self) is not None:
            return False
        return circuit.ins() == [] or len(self._later) >= beats


def _wrong_part(circuit, secrets):
    # The word for the first rows that have a wrong length, or None.
    if len(secrets.first()) != len(circuit.secret_cells()):
        return "first"
    many = len(circuit.ins())
    for row in secrets.later():
        if len(row) != many:
            return "later"
    return None


def check_lengths(circuit, secrets):
    """Raises BadSecrets("first") or BadSecrets("later") for rows of wrong lengths."""
    wrong = _wrong_part(circuit, secrets)
    if wrong is not None:
        raise BadSecrets(wrong)


def check_fit(circuit, secrets, beats):
    """Raises BadSecrets("first") or BadSecrets("later") for secrets that do not fit for so many beats."""
    check_lengths(circuit, secrets)
    if not secrets.fits(circuit, beats):
        raise BadSecrets("later")


def check_beats(beats):
    """Raises BadNumber for any value that is no number of beats of a run."""
    if not is_number(beats, 0, MOST_BEATS):
        raise BadNumber(beats)


class PlainRun:
    """A plain run of a circuit, which does one beat after another."""

    def __init__(self, circuit, secrets):
        check_lengths(circuit, secrets)
        self._cells = circuit.cells()
        self._ins = circuit.ins()
        self._gates = circuit.gates()
        self._opens = circuit.opens()
        self._later = secrets.later()
        # The bits of the cells in the next beat, and of all wires in the last one.
        self._coming = _first_bits(self._cells, secrets.first())
        self._bits = {}
        self._opened = []

    @property
    def beat(self):
        """How many beats have been done."""
        return len(self._opened)

    @property
    def opened(self):
        """The list of the opened rows."""
        return list(self._opened)

    def step(self):
        """Does one beat and returns its opened row."""
        at = len(self._opened)
        if at == MOST_BEATS:
            raise TooMany("beats", at + 1)
        if self._ins and at >= len(self._later):
            raise BadSecrets("later")
        bits = dict(self._coming)
        if self._ins:
            bits.update({name: bit for name, bit in zip(self._ins, self._later[at])})
        do_gates(self._gates, bits, 1)
        self._bits = bits
        self._coming = {name: bits[source] for name, _, source in self._cells}
        row = tuple([bits[wire] for wire in self._opens])
        self._opened.append(row)
        return row

    def bit(self, wire):
        """The bit of a wire in the last beat."""
        if not isinstance(wire, str) or wire not in self._bits:
            raise NoWire(wire)
        return self._bits[wire]


def _first_bits(cells, row):
    bits = {}
    used = 0
    for name, first, _ in cells:
        if first is None:
            bits[name] = row[used]
            used += 1
        else:
            bits[name] = first
    return bits


def plain_rows(circuit, secrets, beats):
    """The list of the opened rows of so many beats."""
    check_beats(beats)
    run = PlainRun(circuit, secrets)
    return [run.step() for _ in range(beats)]


def differences(circuit, one, other, beats):
    """For each beat, a dict from each wire to its difference for two secrets."""
    check_beats(beats)
    first = _wire_bits(circuit, one, beats)
    second = _wire_bits(circuit, other, beats)
    return [{wire: bits[wire] ^ others[wire] for wire in bits} for bits, others in zip(first, second)]


def _wire_bits(circuit, secrets, beats):
    # For each beat, a dict from each wire to its bit.
    wires = circuit.wires()
    run = PlainRun(circuit, secrets)
    found = []
    for _ in range(beats):
        run.step()
        found.append({wire: run.bit(wire) for wire in wires})
    return found


def first_parting(circuit, one, other, beats):
    """The first beat in which the opened rows of two secrets differ, or None."""
    first = plain_rows(circuit, one, beats)
    second = plain_rows(circuit, other, beats)
    for at, row in enumerate(first):
        if row != second[at]:
            return at
    return None
