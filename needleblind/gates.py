"""Gates on parts, and what the wires within a refresh and a product have."""

from needleblind.pairs import number_pairs


def xor_parts(a, b):
    """The parts of the xor of two wires."""
    return tuple([one ^ other for one, other in zip(a, b)])


def not_parts(a):
    """The parts of the not of a wire."""
    return (1 - a[0], *a[1:])


def refresh_parts(parts, coins):
    """The parts of a wire, refreshed."""
    found = list(parts)
    for (i, j), coin in zip(number_pairs(len(parts)), coins):
        found[i] ^= coin
        found[j] ^= coin
    return tuple(found)


def product_parts(a, b, coins):
    """The parts of the and of two wires."""
    found = [one & other for one, other in zip(a, b)]
    for (i, j), coin in zip(number_pairs(len(a)), coins):
        found[i] ^= coin
        found[j] ^= coin ^ (a[i] & b[j]) ^ (a[j] & b[i])
    return tuple(found)


def refresh_wires(parts, coins):
    """The dict from (kind, i, j) to the bit of each wire turn and row of a refresh."""
    wires = {}
    shared = {}
    for (i, j), coin in zip(number_pairs(len(parts)), coins):
        wires["turn", i, j] = coin
        shared[i, j] = coin
        shared[j, i] = coin
    for i, part in enumerate(parts):
        bit = part
        for j in range(len(parts)):
            if j != i:
                bit ^= shared[i, j]
                wires["row", i, j] = bit
    return wires


def product_wires(a, b, coins):
    """The dict from (kind, i, j) to the bit of each wire coin, prod, half, back and sum of a product."""
    wires = {}
    shared = {}
    for (i, j), coin in zip(number_pairs(len(a)), coins):
        half = coin ^ (a[i] & b[j])
        back = half ^ (a[j] & b[i])
        wires["coin", i, j] = coin
        wires["half", i, j] = half
        wires["back", j, i] = back
        shared[i, j] = coin
        shared[j, i] = back
    for i in range(len(a)):
        bit = a[i] & b[i]
        wires["sum", i, i] = bit
        for j in range(len(a)):
            if j != i:
                bit ^= shared[i, j]
                wires["prod", i, j] = a[i] & b[j]
                wires["sum", i, j] = bit
    return wires
