"""Rows of coins of like rank."""

from needleblind.bits import bit_rows
from needleblind.errors import BadNumber
from needleblind.readings import reading_rows


def like_rank(taken, parts, other, coins, *, lot, without):
    """The row of coins that gives another row of parts the same reading, with the rank of a row of coins."""
    many = len(coins)
    rows = list(bit_rows(many))
    at = rows.index(tuple(coins))
    readings = reading_rows(taken.piece, lot, parts, without)
    rank = readings[:at].count(readings[at])
    others = reading_rows(taken.piece, lot, other, without)
    like = [row for row, reading in zip(rows, others) if reading == readings[at]]
    if rank >= len(like):
        raise BadNumber(without)
    return like[rank]
