"""Rows led to other bases, and the trees of their halves."""

from partmill.powers import power
from partmill.rows import cut, is_row, number_of, row_of


def led(base, goal, row):
    """The row, of the base goal, of the number that a row of base tells."""
    return row_of(goal, number_of(base, row))


def cut_place(row):
    """Where a row is cut in halves."""
    return (len(row) + 1) // 2


def halves(base, goal, row):
    """The tree of a row's halves: (led row, ()) or (led row, (low, high))."""
    if len(row) <= 1:
        return led(base, goal, row), ()
    low, high = cut(row, cut_place(row))
    return led(base, goal, row), (halves(base, goal, low), halves(base, goal, high))


def is_node(goal, thing):
    """Whether a thing may be a node of a tree: a row of the goal, and a tuple of what is below."""
    if not isinstance(thing, tuple) or len(thing) != 2:
        return False
    return is_row(goal, thing[0]) and isinstance(thing[1], tuple)


def shows_halves(base, goal, row, thing):
    """Whether a thing is the tree of a row's halves."""
    if not is_node(goal, thing):
        return False
    told, below = thing
    if len(row) <= 1:
        return len(below) == 0 and told == led(base, goal, row)
    if len(below) != 2:
        return False
    at = cut_place(row)
    low, high = cut(row, at)
    if not shows_halves(base, goal, low, below[0]) or not shows_halves(base, goal, high, below[1]):
        return False
    together = number_of(goal, below[0][0]) + number_of(goal, below[1][0]) * power(base, at)
    return number_of(goal, told) == together
