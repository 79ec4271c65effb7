"""Rows: whole numbers from 0 as tuples of figures of a base, the least first."""

from partmill.errors import Below
from partmill.kinds import is_whole


def row_of(base, number):
    """The row of a number from 0."""
    figures = []
    while number > 0:
        figures.append(number % base)
        number = number // base
    return tuple(figures)


def number_of(base, row):
    """The number that a row tells."""
    number = 0
    for figure in reversed(row):
        number = number * base + figure
    return number


def is_figure(base, thing):
    """Whether a thing is a figure of the base."""
    return is_whole(thing) and 0 <= thing < base


def is_row(base, thing):
    """Whether a thing is a row of the base."""
    if not isinstance(thing, tuple):
        return False
    if not all(is_figure(base, figure) for figure in thing):
        return False
    return len(thing) == 0 or thing[-1] != 0


def less(one, other):
    """Whether the first row's number is less than the second one's."""
    if len(one) != len(other):
        return len(one) < len(other)
    # Tuples are compared from their first item on, rows from their last one.
    return one[::-1] < other[::-1]


def figure_at(row, at):
    """The figure of a row at a place; beyond its end there are noughts."""
    return row[at] if at < len(row) else 0


def without_end_noughts(figures):
    """The row of figures that may end in noughts."""
    many = len(figures)
    while many > 0 and figures[many - 1] == 0:
        many -= 1
    return tuple(figures[:many])


def plus(base, one, other):
    """The row of two rows' sum."""
    figures = []
    carry = 0
    for at in range(max(len(one), len(other))):
        there = figure_at(one, at) + figure_at(other, at) + carry
        figures.append(there % base)
        carry = there // base
    if carry > 0:
        figures.append(carry)
    return tuple(figures)


def minus(base, one, other):
    """The row of the first row's number less the second one's."""
    if less(one, other):
        raise Below("the number taken away is the greater one")
    figures = []
    # The carry is -1 where a figure has borrowed from the next one.
    carry = 0
    for at, figure in enumerate(one):
        there = figure - figure_at(other, at) + carry
        figures.append(there % base)
        carry = there // base
    return without_end_noughts(figures)


def moved(row, many):
    """The row with so many noughts ahead; nought stays ()."""
    if len(row) == 0:
        return ()
    return (0,) * many + row


def cut(row, at):
    """The rows of the number that the first figures tell and of that of the others."""
    return without_end_noughts(row[:at]), row[at:]
