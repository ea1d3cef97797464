"""The house's own pieces, and the ring."""

from needleblind.errors import BadName, BadNumber
from needleblind.lines import gate_line, line_text
from needleblind.names import is_number
from needleblind.pairs import number_pairs
from needleblind.pieces import KINDS, Piece

MOST_PARTS = 10


def house_piece(kind, n):
    """The house refresh or product with n parts."""
    if not isinstance(kind, str) or kind not in KINDS:
        raise BadName(kind)
    if not is_number(n, 2, MOST_PARTS):
        raise BadNumber(n)
    if kind == "product":
        return _product_piece(n)
    return _refresh_piece(n, number_pairs(n), [[j for j in range(n) if j != i] for i in range(n)])


def ring_piece(n):
    """The refresh with n parts that has coins between neighbours alone."""
    if not is_number(n, 3, MOST_PARTS):
        raise BadNumber(n)
    coins = [*[(i, i + 1) for i in range(n - 1)], (0, n - 1)]
    return _refresh_piece(n, coins, [sorted([(i - 1) % n, (i + 1) % n]) for i in range(n)])


def _refresh_piece(n, coins, partners):
    # The refresh with a coin for each pair, and for each number the numbers with which it shares one.
    lines = [f"piece refresh {n}"]
    lines.extend([f"coin r{i}{j}" for i, j in coins])
    outs = []
    for i in range(n):
        wire = f"a{i}"
        for j in partners[i]:
            lines.append(gate_line(f"s{i}{j}", "xor", wire, f"r{min(i, j)}{max(i, j)}"))
            wire = f"s{i}{j}"
        outs.append(wire)
    return _ended_piece(lines, outs)


def _product_piece(n):
    pairs = number_pairs(n)
    lines = [f"piece product {n}"]
    lines.extend([f"coin z{i}{j}" for i, j in pairs])
    lines.extend([gate_line(f"p{i}{j}", "and", f"a{i}", f"b{j}") for i in range(n) for j in range(n) if i != j])
    lines.extend([gate_line(f"q{i}", "and", f"a{i}", f"b{i}") for i in range(n)])
    lines.extend([gate_line(f"h{i}{j}", "xor", f"z{i}{j}", f"p{i}{j}") for i, j in pairs])
    lines.extend([gate_line(f"k{j}{i}", "xor", f"h{i}{j}", f"p{j}{i}") for i, j in pairs])
    outs = []
    for i in range(n):
        wire = f"q{i}"
        for j in [at for at in range(n) if at != i]:
            lines.append(gate_line(f"s{i}{j}", "xor", wire, f"z{i}{j}" if i < j else f"k{i}{j}"))
            wire = f"s{i}{j}"
        outs.append(wire)
    return _ended_piece(lines, outs)


def _ended_piece(lines, outs):
    words = " ".join(outs)
    return Piece(line_text([*lines, f"out {words}"]))
