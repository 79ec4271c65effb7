"""Costs: how many steps of each word the works of a plan have, without their being made.

A count is (times, plus, minus, by, part). Counts are put together out of (many, count) pairs.
"""

from partmill.cutting import like_blocks, part_sizes, points
from partmill.powers import power

NONE = (0, 0, 0, 0, 0)
TIMES = (1, 0, 0, 0, 0)
PLUS = (0, 1, 0, 0, 0)
MINUS = (0, 0, 1, 0, 0)
BY = (0, 0, 0, 1, 0)
PART = (0, 0, 0, 0, 1)
BY_AND_PLUS = (0, 1, 0, 1, 0)
BY_AND_MINUS = (0, 0, 1, 1, 0)

FACTORS = {"product": 2, "square": 1}


def summed(pairs):
    """The count of all pairs (many, count) together."""
    return tuple([sum([many * count[at] for many, count in pairs]) for at in range(5)])


def with_part_count(x):
    """The count of x times a cell and another one, x not 0."""
    if x == 1:
        return PLUS
    return MINUS if x == -1 else BY_AND_PLUS


def less_times_count(x):
    """The count of a cell less x times another one."""
    if x == 0:
        return NONE
    if x == 1:
        return MINUS
    return PLUS if x == -1 else BY_AND_MINUS


def all_ways_count(kind, n):
    """The count of all products of two strips of n numbers, or of all squares."""
    if kind == "product":
        return summed([(n * n, TIMES), ((n - 1) * (n - 1), PLUS)])
    doubled = max(0, 2 * n - 3)
    return summed([(n * (n + 1) // 2, TIMES), ((n - 1) * (n - 2) // 2, PLUS), (doubled, BY)])


def value_counts(kind, n, p):
    """What the values at all points come to."""
    full, last = part_sizes(n, p)
    many = FACTORS[kind] * (last + (p - 2) * full)
    return [(many, with_part_count(x)) for x in points(p) if x != 0]


def lessened_counts(n, p):
    """What it comes to that the last part is taken away from each value's product."""
    last = part_sizes(n, p)[1]
    return [(2 * last - 1, less_times_count(power(x, 2 * p - 2))) for x in points(p)]


def difference_counts(n, p):
    """What all rounds of differences come to."""
    cells = 2 * part_sizes(n, p)[0] - 1
    rows = [2 * p - 2 - k for k in range(1, 2 * p - 2)]
    return [(cells * sum(rows), MINUS), (cells * sum(rows[1:]), PART)]


def found_counts(n, p):
    """What the finding of the parts out of the first differences comes to."""
    cells = 2 * part_sizes(n, p)[0] - 1
    return [((p - 1 - x) * cells, less_times_count(x)) for x in range(p - 2, 1 - p, -1)]


def laid_count(n, p):
    """How many plus put the parts of the product together."""
    full, last = part_sizes(n, p)
    outs = 2 * n - 1
    used = [min(2 * full - 1, outs - at * full) for at in range(2 * p - 2)]
    return sum(used) + 2 * last - 1 - outs


def own_count(kind, n, p):
    """What the way p comes to at n beside the products (squares) of smaller sizes."""
    if p == 1:
        return all_ways_count(kind, n)
    found = value_counts(kind, n, p) + lessened_counts(n, p) + difference_counts(n, p) + found_counts(n, p)
    return summed(found + [(laid_count(n, p), PLUS)])


def smaller_sizes(n, p):
    """The smaller sizes that the way p leads to at n, as (many, size) pairs."""
    if p == 1:
        return []
    full, last = part_sizes(n, p)
    return [(2 * p - 2, full), (1, last)]


def size_counts(kind, plan, most):
    """The counts of a plan for the sizes from 1 to most; in place 0 stands nothing."""
    counts = [NONE]
    for n in range(1, most + 1):
        way = plan[n - 1]
        smaller = [(many, counts[size]) for many, size in smaller_sizes(n, way)]
        counts.append(summed(smaller + [(1, own_count(kind, n, way))]))
    return counts


def cost_of(plan, n, m):
    """The count of work_of."""
    sizes = [many for i, j, many in like_blocks(n, m)]
    counts = size_counts("product", plan, min(n, m))
    put_together = sum([2 * size - 1 for size in sizes]) - (n + m - 1)
    return summed([(1, counts[size]) for size in sizes] + [(put_together, PLUS)])


def square_cost(plan, n):
    """The count of square_of."""
    return size_counts("square", plan, n)[n]


def through_cost(plan, n):
    """The count of through_squares."""
    outs = 2 * n - 1
    return summed([(n, PLUS), (n + outs, MINUS), (outs, PART), (2, square_cost(plan, n))])
