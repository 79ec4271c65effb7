"""Products of rows, by the works of a plan."""

from partmill.carrying import carried
from partmill.parting import square_of, through_squares, work_of
from partmill.works import ran


def worked(base, work, one, other):
    """The row of the number that a work gives of two rows' figures."""
    return carried(base, ran(work, one, other))[0]


def multiplied(base, plan, one, other):
    """The row of two rows' product."""
    if len(one) == 0 or len(other) == 0:
        return ()
    return worked(base, work_of(plan, len(one), len(other)), one, other)


def squared(base, plan, one):
    """The row of a row's square."""
    if len(one) == 0:
        return ()
    return worked(base, square_of(plan, len(one)), one, ())


def with_noughts(row, many):
    """So many figures of a row, noughts behind its end."""
    return row + (0,) * (many - len(row))


def through(base, plan, one, other):
    """The row of two rows' product, through squares."""
    if len(one) == 0 or len(other) == 0:
        return ()
    many = max(len(one), len(other))
    return worked(base, through_squares(plan, many), with_noughts(one, many), with_noughts(other, many))
