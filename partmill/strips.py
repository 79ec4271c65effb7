"""Strips: tuples of one whole number or more, of any sign."""


def pairs(n, m, k):
    """All (i, j) with i + j = k, i a place of n ones, j one of m, by rising i."""
    return [(i, k - i) for i in range(max(0, k - m + 1), min(n, k + 1))]


def product(one, other):
    """The strip whose k-th number is the sum of all products of places i and j with i + j = k."""
    n = len(one)
    m = len(other)
    return tuple([sum([one[i] * other[j] for i, j in pairs(n, m, k)]) for k in range(n + m - 1)])
