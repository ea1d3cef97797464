"""Numbers of parts: those that looks touch, and the coins that are turned where one number is left alone."""

from needleblind.errors import BadLook, TooMany
from needleblind.looks import REFRESH_KINDS, house_look, line_look, row_numbers
from needleblind.pairs import pair_place


def least_outside(numbers, n):
    """The least number from 0 to n - 1 that is not in a list of numbers."""
    for number in range(n):
        if number not in numbers:
            return number
    raise TooMany("numbers", n)


def numbers_looked(looks, *, pieces=None):
    """The pair (numbers of the looks of one beat, those of its refreshes alone) of ascending tuples."""
    laid = {} if pieces is None else pieces
    all_numbers = []
    refresh_numbers = []
    lines_at = {}
    for look in looks:
        row = house_look(look)
        if row is None:
            _, wire, name = _laid_line(look, laid)
            lines_at.setdefault(wire, []).append(name)
            continue
        all_numbers.extend(row_numbers(row))
        if row[0] in REFRESH_KINDS:
            refresh_numbers.extend(row_numbers(row))
    for wire, names in lines_at.items():
        numbers = laid[wire].numbers(lot_of(laid[wire].piece, names))
        all_numbers.extend(numbers)
        if laid[wire].piece.kind == "refresh":
            refresh_numbers.extend(numbers)
    return (tuple(sorted(set(all_numbers))), tuple(sorted(set(refresh_numbers))))


def _laid_line(look, laid):
    row = line_look(look)
    if row is None or row[1] not in laid:
        raise BadLook(look)
    if row[2] not in [line[0] for line in laid[row[1]].piece.lines()]:
        raise BadLook(look)
    return row


def lot_of(piece, names):
    """The lot of some lines of a piece, which may stand in any order and several times."""
    return tuple([line[0] for line in piece.lines() if line[0] in names])


def turned_door(d, k, n):
    """The coins of a parting that the twin turns, with the difference d and the number k left alone."""
    return [k] if d == 1 and k < n - 1 else []


def turned_refresh(d, k, q, n):
    """The coins of a refresh that the twin turns, with the number k left alone ahead of it, and q behind it."""
    return [pair_place(k, q, n)] if d == 1 and k != q else []


def turned_product(da, db, a, b, k):
    """The coins of an and gate that the twin turns, with the differences and parts of the wires that it reads."""
    n = len(a)
    return [pair_place(k, j, n) for j in range(k + 1, n) if (da & b[j]) ^ (a[j] & db) == 1]
