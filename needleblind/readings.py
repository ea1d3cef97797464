"""What a piece shows of itself: lots of its lines, and their readings."""

from needleblind.columns import columns
from needleblind.errors import BadName, BadSecrets
from needleblind.names import is_bits


def choices(row, most):
    """All tuples of 0 to most unlike items of a row, those with fewer first, and then by the places of the items."""
    yield ()
    level = [((), 0)]
    for _ in range(most):
        level = [((*chosen, row[at]), at + 1) for chosen, start in level for at in range(start, len(row))]
        for pair in level:
            yield pair[0]


def wrong_place(piece, lot):
    """The place of the first item of a list or tuple with which it is no lot, or None."""
    places = {line[0]: at for at, line in enumerate(piece.lines())}
    least = 0
    for at, name in enumerate(lot):
        if not isinstance(name, str) or name not in places or places[name] < least:
            return at
        least = places[name] + 1
    return None


def check_lot(piece, lot):
    """Raises BadName for any value that is no lot of a piece."""
    if not isinstance(lot, (list, tuple)):
        raise BadName(lot)
    wrong = wrong_place(piece, lot)
    if wrong is not None:
        raise BadName(lot[wrong])


def check_parts(piece, parts):
    """Raises BadSecrets("parts") for any value that is no row of parts of a piece."""
    if not is_bits(parts, len(piece.parts())):
        raise BadSecrets("parts")


def reading_rows(piece, lot, parts, without):
    """The readings of a lot without a number, for a row of parts and all rows of coins, ascending."""
    outs = piece.outs()
    wires = [*lot, *outs[:without], *outs[without + 1:]]
    fixed = {name: bit for name, bit in zip(piece.parts(), parts)}
    found = columns(piece.coins(), piece.lines(), wires, fixed)
    rows = [found[wire] for wire in wires]
    return list(zip(*rows))
