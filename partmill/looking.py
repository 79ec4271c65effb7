"""The looker: goes through a work with forms and takes it only where it is right for all numbers.

A form is kept as (degree, numbers): numbers is a dict of the numbers that aren't 0, by their cells,
(i,) or (i, j) with i <= j. The degree stands beside it, for a form of noughts alone has one, too.
"""

from partmill.errors import Unfit
from partmill.strips import pairs
from partmill.works import is_work


def without_noughts(numbers):
    """The same numbers but for those that are 0."""
    return {cells: number for cells, number in numbers.items() if number != 0}


def multiplied_numbers(numbers, others):
    """The numbers of the product of two forms of the first degree."""
    sums = {}
    for cells, number in numbers.items():
        for other_cells, other in others.items():
            both = (min(cells[0], other_cells[0]), max(cells[0], other_cells[0]))
            sums[both] = sums.get(both, 0) + number * other
    return without_noughts(sums)


def added_numbers(numbers, others, sign):
    """The numbers of the sum of two forms of one degree, the second one by 1 or -1."""
    sums = {cells: number for cells, number in numbers.items()}
    for cells, other in others.items():
        sums[cells] = sums.get(cells, 0) + sign * other
    return without_noughts(sums)


def with_factor(word, form, factor, at):
    """The form that a by or a part makes."""
    degree, numbers = form
    if word == "by":
        return degree, without_noughts({cells: number * factor for cells, number in numbers.items()})
    if any(number % factor != 0 for number in numbers.values()):
        raise Unfit(at)
    return degree, {cells: number // factor for cells, number in numbers.items()}


def with_other(word, form, other_form, at):
    """The form that a times, a plus or a minus makes."""
    degree, numbers = form
    other_degree, others = other_form
    if degree != other_degree:
        raise Unfit(at)
    if word == "plus":
        return degree, added_numbers(numbers, others, 1)
    if word == "minus":
        return degree, added_numbers(numbers, others, -1)
    if degree != 1:
        raise Unfit(at)
    return 2, multiplied_numbers(numbers, others)


def gone_through(work):
    """The form of each cell of a fit work."""
    n, m, steps, outs = work
    seen = [(1, {(cell,): 1}) for cell in range(n + m)]
    for at, (word, left, right) in enumerate(steps):
        if word == "by" or word == "part":
            seen.append(with_factor(word, seen[left], right, at))
        else:
            seen.append(with_other(word, seen[left], seen[right], at))
    return seen


def forms(work):
    """For each cell of a fit work the rising tuple of (cells, number) for all numbers but 0."""
    return tuple([tuple(sorted(numbers.items())) for degree, numbers in gone_through(work)])


def shows(work, wanted):
    """Whether a work is fit and its outs have just the wanted numbers, in the second degree."""
    try:
        seen = gone_through(work)
    except Unfit:
        return False
    return [seen[out] for out in work[3]] == [(2, numbers) for numbers in wanted]


def product_numbers(n, m, k):
    """The numbers of the k-th form of the product of strips of n and m numbers."""
    return {(i, n + j): 1 for i, j in pairs(n, m, k)}


def square_numbers(n, k):
    """The numbers of the k-th form of the square of a strip of n numbers."""
    return {(i, j): 1 if i == j else 2 for i, j in pairs(n, n, k) if i <= j}


def shows_product(thing):
    """Whether a thing is a work that gives the product of all strips of its sizes."""
    if not is_work(thing):
        return False
    n, m, steps, outs = thing
    if m < 1 or len(outs) != n + m - 1:
        return False
    return shows(thing, [product_numbers(n, m, k) for k in range(n + m - 1)])


def shows_square(thing):
    """Whether a thing is a work that gives the square of all strips of its size."""
    if not is_work(thing):
        return False
    n, m, steps, outs = thing
    if m != 0 or len(outs) != 2 * n - 1:
        return False
    return shows(thing, [square_numbers(n, k) for k in range(2 * n - 1)])
