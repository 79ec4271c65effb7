"""Works of all products: each cell with each other one."""

from partmill.making import Maker
from partmill.strips import pairs


def product_cells(maker, one, other):
    """The cells of the product of two rows of cells."""
    outs = []
    for k in range(len(one) + len(other) - 1):
        places = pairs(len(one), len(other), k)
        outs.append(maker.together([maker.put("times", one[i], other[j]) for i, j in places]))
    return outs


def square_cell(maker, one, places):
    """The cell of one number of a row's square, places being all i and j that come to it."""
    unlike = [maker.put("times", one[i], one[j]) for i, j in places if i < j]
    like = [maker.put("times", one[i], one[j]) for i, j in places if i == j]
    if len(unlike) == 0:
        return like[0]
    doubled = maker.put("by", maker.together(unlike), 2)
    return maker.together([doubled, *like])


def square_cells(maker, one):
    """The cells of the square of a row of cells."""
    return [square_cell(maker, one, pairs(len(one), len(one), k)) for k in range(2 * len(one) - 1)]


def all_products(n, m):
    """A work for the product of strips of n and m numbers."""
    maker = Maker(n, m)
    return maker.work(product_cells(maker, maker.firsts(), maker.seconds()))


def all_squares(n):
    """A work for the square of a strip of n numbers."""
    maker = Maker(n, 0)
    return maker.work(square_cells(maker, maker.firsts()))
