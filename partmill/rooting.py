"""Roots of rows, by nearing: the root's first figures, each time nearly twice as many."""

from partmill.kinds import are_triples
from partmill.powers import power
from partmill.rows import number_of, row_of


def is_whole_root(m, r):
    """Whether r, of numbers from 0, is the greatest whose square is no more than m."""
    return r * r <= m < (r + 1) * (r + 1)


def whole_root(m):
    """The greatest number whose square is no more than m, from 1."""
    r = m
    # From above each step comes nearer and never goes below the root.
    while r * r > m:
        r = (r + m // r) // 2
    return r


def root_size(row):
    """How many figures the root of a row has."""
    return (len(row) + 1) // 2


def root_sizes(most):
    """How many first figures of a root of so many figures are told, one time after another."""
    if most == 0:
        return []
    sizes = [min(2, most)]
    while sizes[-1] < most:
        sizes.append(min(most, 2 * sizes[-1] - 1))
    return sizes


def root_begins(base, row):
    """The numbers whose roots are the root's first figures, for each of its sizes."""
    u = number_of(base, row)
    t = root_size(row)
    return [u // power(base, 2 * (t - s)) for s in root_sizes(t)]


def next_root_guess(base, m, s, ahead):
    """What the triple ahead lets guess of the root of m, of s figures: it or one more."""
    y = ahead[1] * power(base, s - ahead[0])
    return (y + m // y) // 2


def is_root_guessed(base, m, triple, ahead):
    """Whether a triple's guess is that out of the one ahead."""
    return triple[2] == next_root_guess(base, m, triple[0], ahead)


def root_nears(base, row):
    """The nearing of a row's root, as (s, r, guess)s."""
    told = []
    for s, m in zip(root_sizes(root_size(row)), root_begins(base, row)):
        if len(told) == 0:
            told.append((s, whole_root(m), None))
        else:
            guess = next_root_guess(base, m, s, told[-1])
            told.append((s, guess if is_whole_root(m, guess) else guess - 1, guess))
    return tuple(told)


def shows_root_nears(base, row, thing):
    """Whether a thing is the nearing of a row's root."""
    if not are_triples(root_sizes(root_size(row)), thing):
        return False
    begins = root_begins(base, row)
    if not all(is_whole_root(m, triple[1]) for m, triple in zip(begins, thing)):
        return False
    return all(is_root_guessed(base, begins[at], thing[at], thing[at - 1]) for at in range(1, len(thing)))


def rooted(base, row):
    """The rows of a row's root and of what is left without its square."""
    if len(row) == 0:
        return (), ()
    r = root_nears(base, row)[-1][1]
    return row_of(base, r), row_of(base, number_of(base, row) - r * r)
