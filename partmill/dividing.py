"""Quotients of rows, by nearing."""

from partmill.nearing import is_whole_part, nears
from partmill.powers import power
from partmill.rows import number_of, row_of


def divided(base, one, other):
    """The rows of the first row's quotient by the second one and of the rest, and the number guessed as quotient."""
    n = len(other)
    s, x, x_guess = nears(base, other, max(1, len(one) - n))[-1]
    u = number_of(base, one)
    v = number_of(base, other)
    guess = u * x // power(base, n + s)
    quotient = guess if is_whole_part(u, v, guess) else guess + 1
    return row_of(base, quotient), row_of(base, u - quotient * v), guess
