"""Nearing: the whole parts of powers of a base by a number, each of twice as many figures as the one ahead."""

from partmill.errors import NoDivisor
from partmill.kinds import are_triples
from partmill.powers import power, twos
from partmill.rows import number_of


def is_whole_part(whole, v, x):
    """Whether x is the whole part of a number by v."""
    return x * v <= whole < (x + 1) * v


def next_guess(base, n, v, s, x):
    """What (s, x), v having n figures, lets guess of the whole part behind it: it or one less."""
    taken = v * x * x
    top = power(base, n)
    return 2 * x * power(base, s) - (taken + top - 1) // top


def nears(base, row, least):
    """The nearing of a row's number, as (s, x, guess)s, up to s of least or more."""
    if len(row) == 0:
        raise NoDivisor("nought has no nearing")
    n = len(row)
    v = number_of(base, row)
    x = power(base, n + 1) // v
    told = [(1, x, None)]
    for s in twos(least)[1:]:
        guess = next_guess(base, n, v, s // 2, x)
        x = guess if is_whole_part(power(base, n + s), v, guess) else guess + 1
        told.append((s, x, guess))
    return tuple(told)


def is_guessed(base, n, v, triple, ahead):
    """Whether a triple's guess is that out of the one ahead."""
    return triple[2] == next_guess(base, n, v, ahead[0], ahead[1])


def shows_nears(base, row, least, thing):
    """Whether a thing is the nearing of a row's number."""
    if len(row) == 0 or not are_triples(twos(least), thing):
        return False
    n = len(row)
    v = number_of(base, row)
    if not all(is_whole_part(power(base, n + s), v, x) for s, x, guess in thing):
        return False
    return all(is_guessed(base, n, v, thing[at], thing[at - 1]) for at in range(1, len(thing)))
