"""Gates that are worked out for one row of bits, or for all rows at once."""

# Masks of 2 ** 11 rows are whole numbers of a moderate length.
MOST_AT_ONCE = 11


def do_gates(gates, masks, full):
    """Puts the masks of gates, done in order, into a dict; a mask has a bit for each row, and full has them all."""
    for name, kind, a, b in gates:
        if kind == "xor":
            masks[name] = masks[a] ^ masks[b]
        elif kind == "and":
            masks[name] = masks[a] & masks[b]
        elif kind == "not":
            masks[name] = masks[a] ^ full


def columns(names, gates, wanted, fixed):
    """A dict from each wanted wire to the list of its bits, one for each row that the names may have, ascending.

    The rows have a bit for each name; fixed is a dict from other names to the bit that they have in all rows.
    """
    low = min(len(names), MOST_AT_ONCE)
    full = (1 << (1 << low)) - 1
    high_names = names[:len(names) - low]
    low_masks = {name: full * bit for name, bit in fixed.items()}
    for at, name in enumerate(names[len(names) - low:]):
        low_masks[name] = _pattern(low - 1 - at, low)
    found = {wire: [] for wire in wanted}
    for number in range(1 << len(high_names)):
        masks = dict(low_masks)
        for at, name in enumerate(high_names):
            masks[name] = full * ((number >> (len(high_names) - 1 - at)) & 1)
        do_gates(gates, masks, full)
        for wire in list(found):
            found[wire].extend(_bits_in(masks[wire], 1 << low))
    return found


def _pattern(place, low):
    # The mask of the rows, counted from 0 to 2 ** low - 1, whose number has the bit of this place.
    size = 1 << place
    mask = ((1 << size) - 1) << size
    size *= 2
    while size < 1 << low:
        mask |= mask << size
        size *= 2
    return mask


def _bits_in(mask, many):
    return [(mask >> at) & 1 for at in range(many)]
