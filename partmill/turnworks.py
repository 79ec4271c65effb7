"""Works that turn a strip, each cell taken as its rest by a prime."""

from partmill.costs import BY, MINUS, PLUS, summed
from partmill.making import Maker
from partmill.powers import power_rest, power_rests
from partmill.works import is_work, made


def turned_straight_cell(maker, powers, cells, k):
    """The k-th of the turned cells, out of all cells."""
    if k == 0:
        return maker.together(cells)
    n = len(cells)
    later = [maker.put("by", cells[i], powers[i * k % n]) for i in range(1, n)]
    return maker.together([cells[0], *later])


def turned_straight_cells(maker, p, w, cells):
    """The turned cells, each out of all cells."""
    powers = power_rests(p, w, len(cells))
    return [turned_straight_cell(maker, powers, cells, k) for k in range(len(cells))]


def turned_cells(maker, p, w, cells):
    """The turned cells, by halves as long as there are two."""
    n = len(cells)
    if n % 2 == 1:
        return turned_straight_cells(maker, p, w, cells)
    evens = turned_cells(maker, p, w * w % p, cells[0::2])
    odds = turned_cells(maker, p, w * w % p, cells[1::2])
    powers = power_rests(p, w, n // 2)
    later = odds[:1] + [maker.put("by", odds[k], powers[k]) for k in range(1, n // 2)]
    firsts = [maker.put("plus", even, odd) for even, odd in zip(evens, later)]
    return firsts + [maker.put("minus", even, odd) for even, odd in zip(evens, later)]


def turn_work(p, w, n):
    """A work that turns a strip of n numbers, w being a root of n."""
    maker = Maker(n, 0)
    return maker.work(turned_cells(maker, p, w, maker.firsts()))


def turn_cost(n):
    """The count of turn_work."""
    if n % 2 == 1:
        return summed([(n * (n - 1), PLUS), ((n - 1) * (n - 1), BY)])
    half = n // 2
    return summed([(2, turn_cost(half)), (half, PLUS), (half, MINUS), (half - 1, BY)])


def ran_rests(p, work, strip):
    """The rests of the outs of a work with one strip and no part."""
    # Rests at each step keep the numbers small.
    cells = [number % p for number in strip]
    for at, step in enumerate(work[2]):
        cells.append(made(cells, at, step) % p)
    return tuple([cells[out] for out in work[3]])


def turns_place(p, w, work, i):
    """Whether the outs of a work have, of its i-th cell, the rests of the powers of w ** i."""
    n = work[0]
    alone = (0,) * i + (1,) + (0,) * (n - 1 - i)
    return ran_rests(p, work, alone) == tuple(power_rests(p, power_rest(p, w, i), n))


def shows_turning(p, w, thing):
    """Whether a thing is a work that turns each strip of its size."""
    if not is_work(thing):
        return False
    n, m, steps, outs = thing
    if m != 0 or len(outs) != n or any(word == "times" or word == "part" for word, left, right in steps):
        return False
    # Without times and part each out is a sum of cells times numbers: what it gives of one cell alone is its number.
    return all(turns_place(p, w, thing, i) for i in range(n))
