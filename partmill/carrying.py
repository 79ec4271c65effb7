"""Carried figures: a strip's numbers, of any size and sign, made figures of a base."""

from partmill.errors import Below
from partmill.kinds import is_whole
from partmill.rows import figure_at, is_row, without_end_noughts


def carried(base, strip):
    """The row of the number that a strip tells, and the carries, to the first place behind which nothing is left."""
    figures = []
    carries = []
    carry = 0
    for number in strip:
        there = number + carry
        figures.append(there % base)
        carry = there // base
        carries.append(carry)
    if carry < 0:
        raise Below("the strip's number is below nought")
    while carry > 0:
        figures.append(carry % base)
        carry = carry // base
        carries.append(carry)
    return without_end_noughts(figures), tuple(carries)


def is_carried_at(base, strip, row, carries, at):
    """Whether the number and the carry ahead at a place are the figure and base times the carry there."""
    ahead = carries[at - 1] if at > 0 else 0
    return figure_at(strip, at) + ahead == figure_at(row, at) + base * carries[at]


def shows_carried(base, strip, row, carries):
    """Whether two things are the row and the carries of a strip."""
    if not is_row(base, row) or not isinstance(carries, tuple):
        return False
    if not all(is_whole(carry) for carry in carries):
        return False
    if len(carries) < len(strip) or len(carries) < len(row) or carries[-1] != 0:
        return False
    return all(is_carried_at(base, strip, row, carries, at) for at in range(len(carries)))
