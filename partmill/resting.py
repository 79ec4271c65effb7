"""Rests: numbers told by what is left of them by several moduli."""

from partmill.divisors import common_divisor, inverse
from partmill.errors import Shared, TooGreat
from partmill.powers import power
from partmill.rows import is_figure, number_of, row_of


def shared(moduli):
    """The first two places whose moduli have a common divisor above 1, or None."""
    for i, one in enumerate(moduli):
        for j in range(i + 1, len(moduli)):
            if common_divisor(one, moduli[j]) > 1:
                return i, j
    return None


def refuse_shared(moduli):
    """Refuses moduli of which two share something."""
    places = shared(moduli)
    if places is not None:
        raise Shared(places[0], places[1])


def product_of(moduli):
    """The product of all moduli."""
    together = 1
    for modulus in moduli:
        together = together * modulus
    return together


def rests(moduli, number):
    """The rests of a number by the moduli."""
    return tuple([number % modulus for modulus in moduli])


def mixed_number(moduli, digits):
    """The number that digits tell, each of them times the product of all moduli ahead of its own."""
    number = 0
    ahead = 1
    for modulus, digit in zip(moduli, digits):
        number += digit * ahead
        ahead = ahead * modulus
    return number


def unshared_digits(moduli, rests):
    """The digits of the number with these rests, of moduli that are known to share nothing."""
    digits = []
    number = 0
    ahead = 1
    for modulus, rest in zip(moduli, rests):
        digit = (rest - number) * inverse(modulus, ahead) % modulus
        digits.append(digit)
        number += digit * ahead
        ahead = ahead * modulus
    return tuple(digits)


def mixed(moduli, rests):
    """The digits, each below its modulus, of the number with these rests."""
    refuse_shared(moduli)
    return unshared_digits(moduli, rests)


def put_back(moduli, rests):
    """The one number below the product of the moduli with these rests."""
    return mixed_number(moduli, mixed(moduli, rests))


def shows_mixed(moduli, rests, digits):
    """Whether a thing is the digits of the number with these rests, in moduli that share nothing."""
    if shared(moduli) is not None or not isinstance(digits, tuple) or len(digits) != len(moduli):
        return False
    if not all(is_figure(modulus, digit) for modulus, digit in zip(moduli, digits)):
        return False
    number = mixed_number(moduli, digits)
    return all(number % modulus == rest for modulus, rest in zip(moduli, rests))


def by_rests(base, moduli, one, other):
    """The row of two rows' product, put back out of their rests' products."""
    refuse_shared(moduli)
    if power(base, len(one) + len(other)) > product_of(moduli):
        raise TooGreat("the product may be beyond that of the moduli")
    lefts = rests(moduli, number_of(base, one))
    rights = rests(moduli, number_of(base, other))
    products = [left * right % modulus for left, right, modulus in zip(lefts, rights, moduli)]
    return row_of(base, put_back(moduli, tuple(products)))
