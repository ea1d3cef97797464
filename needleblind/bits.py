"""Numbers as rows of bits, from bit 0 on."""


def bits_of(value, width):
    """The tuple of the bits of a number, from bit 0 on."""
    return tuple([(value >> at) & 1 for at in range(width)])


def number_of(bits):
    """The number whose bits, from bit 0 on, are these."""
    total = 0
    for at, bit in enumerate(bits):
        total += bit << at
    return total


def parity(bits):
    """The xor of a row of bits, 0 for none."""
    odd = 0
    for bit in bits:
        odd ^= bit
    return odd


def bit_rows(many):
    """All tuples of many bits, ascending."""
    for number in range(1 << many):
        # Rows ascend as numbers do whose highest bit stands first.
        yield tuple([(number >> (many - 1 - at)) & 1 for at in range(many)])
