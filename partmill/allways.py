"""Works of all products: each cell with each other one."""

from partmill.making import Maker
from partmill.strips import pairs


def all_products(n, m):
    """A work for the product of strips of n and m numbers."""
    maker = Maker(n, m)
    outs = []
    for k in range(n + m - 1):
        products = [maker.put("times", i, n + j) for i, j in pairs(n, m, k)]
        outs.append(maker.together(products))
    return maker.work(outs)


def square_out(maker, places):
    """The cell of one number of a square, places being all i and j that come to it."""
    unlike = [maker.put("times", i, j) for i, j in places if i < j]
    like = [maker.put("times", i, j) for i, j in places if i == j]
    if len(unlike) == 0:
        return like[0]
    doubled = maker.put("by", maker.together(unlike), 2)
    return maker.together([doubled, *like])


def all_squares(n):
    """A work for the square of a strip of n numbers."""
    maker = Maker(n, 0)
    outs = [square_out(maker, pairs(n, n, k)) for k in range(2 * n - 1)]
    return maker.work(outs)
