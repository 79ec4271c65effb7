"""Works by parts: values of the parts are multiplied, and the product is found again by differences.

What is multiplied stands in `factors`: two rows of cells for a product, one for its square.
"""

from partmill.allways import product_cells, square_cells
from partmill.cutting import like_blocks, part_sizes, points
from partmill.making import Maker
from partmill.powers import power


def with_part(maker, x, row, part):
    """x times a row of cells and a part, which may have more cells than the row."""
    cells = []
    for old, new in zip(row, part):
        if x == 1:
            cells.append(maker.put("plus", old, new))
        elif x == -1:
            cells.append(maker.put("minus", new, old))
        else:
            cells.append(maker.put("plus", maker.put("by", old, x), new))
    return cells + part[len(row):]


def value(maker, parts, x):
    """The value of a row of parts at x."""
    if x == 0:
        return parts[0]
    row = parts[-1]
    for part in reversed(parts[:-1]):
        row = with_part(maker, x, row, part)
    return row


def less_times(maker, cell, x, taken):
    """The cell of a cell less x times another one."""
    if x == 0:
        return cell
    if x == 1:
        return maker.put("minus", cell, taken)
    if x == -1:
        return maker.put("plus", cell, taken)
    return maker.put("minus", cell, maker.put("by", taken, x))


def less_row(maker, row, x, taken):
    """A row of cells less x times another one, which may be shorter."""
    cells = [less_times(maker, cell, x, other) for cell, other in zip(row, taken)]
    return cells + row[len(taken):]


def difference(maker, k, row, after):
    """The k-th difference of two rows of cells side by side."""
    cells = [maker.put("minus", new, old) for old, new in zip(row, after)]
    if k == 1:
        return cells
    return [maker.put("part", cell, k) for cell in cells]


def first_differences(maker, rows):
    """Of each round of differences, the rows themselves ahead, the first one."""
    firsts = [rows[0]]
    for k in range(1, len(rows)):
        rows = [difference(maker, k, row, after) for row, after in zip(rows, rows[1:])]
        firsts.append(rows[0])
    return firsts


def found_parts(maker, p, firsts):
    """The parts of a product, but the last one, out of the first differences of its values."""
    parts = [firsts[-1]]
    for x in range(p - 2, 1 - p, -1):
        moved_parts = [firsts[x + p - 2], *parts]
        lessened = [less_row(maker, row, x, taken) for row, taken in zip(moved_parts, parts)]
        parts = lessened + [moved_parts[-1]]
    return parts


def parts_of(cells, p):
    """A row of cells cut in p parts."""
    full = part_sizes(len(cells), p)[0]
    return [cells[at * full:(at + 1) * full] for at in range(p)]


def by_values(maker, plan, p, factors):
    """The cells of the product of factors that are cut in p parts."""
    n = len(factors[0])
    factor_parts = [parts_of(cells, p) for cells in factors]
    values = [[value(maker, parts, x) for parts in factor_parts] for x in points(p)]
    products = [multiplied_cells(maker, plan, factors_there) for factors_there in values]
    last = multiplied_cells(maker, plan, [parts[-1] for parts in factor_parts])
    # Without the last part of the product as many values as there are points tell all others.
    lessened = [less_row(maker, row, power(x, 2 * p - 2), last) for x, row in zip(points(p), products)]
    parts = found_parts(maker, p, first_differences(maker, lessened)) + [last]
    full = part_sizes(n, p)[0]
    return maker.laid(2 * n - 1, [(at * full, part) for at, part in enumerate(parts)])


def multiplied_cells(maker, plan, factors):
    """The cells of the product of factors, by a plan."""
    way = plan[len(factors[0]) - 1]
    if way > 1:
        return by_values(maker, plan, way, factors)
    if len(factors) == 1:
        return square_cells(maker, factors[0])
    return product_cells(maker, factors[0], factors[1])


def work_of(plan, n, m):
    """The work of a plan for the product of strips of n and m numbers."""
    maker = Maker(n, m)
    one = maker.firsts()
    other = maker.seconds()
    blocks = []
    for i, j, many in like_blocks(n, m):
        blocks.append((i + j, multiplied_cells(maker, plan, [one[i:i + many], other[j:j + many]])))
    return maker.work(maker.laid(n + m - 1, blocks))


def square_of(plan, n):
    """The work of a plan for the square of a strip of n numbers."""
    maker = Maker(n, 0)
    return maker.work(multiplied_cells(maker, plan, [maker.firsts()]))


def through_squares(plan, n):
    """The work for the product of two strips of n numbers by squares of their sum and difference."""
    maker = Maker(n, n)
    sums = [maker.put("plus", i, n + i) for i in range(n)]
    differences = [maker.put("minus", i, n + i) for i in range(n)]
    greater = multiplied_cells(maker, plan, [sums])
    lesser = multiplied_cells(maker, plan, [differences])
    fourfold = [maker.put("minus", left, right) for left, right in zip(greater, lesser)]
    return maker.work([maker.put("part", cell, 4) for cell in fourfold])
