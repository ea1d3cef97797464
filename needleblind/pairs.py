"""Pairs of unlike numbers of parts, each of which shares a coin."""


def number_pairs(n):
    """The pairs (i, j) with i < j of numbers below n, ascending."""
    return [(i, j) for i in range(n) for j in range(i + 1, n)]


def pair_place(i, j, n):
    """The place among the pairs of that of two unlike numbers, in either order."""
    low, high = min(i, j), max(i, j)
    # Ahead of it stand the pairs that begin with a lesser number.
    return low * (2 * n - low - 1) // 2 + high - low - 1
