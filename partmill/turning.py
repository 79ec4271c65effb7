"""Turned rows: strips whose products place by place are products round, among the rests by a prime."""

from partmill.divisors import inverse
from partmill.powers import power_rests


def turned_straight(p, w, numbers):
    """The numbers turned, each out of all of them."""
    n = len(numbers)
    powers = power_rests(p, w, n)
    # w to the power of n has the rest 1, so its powers come round.
    return [sum([number * powers[i * k % n] for i, number in enumerate(numbers)]) % p for k in range(n)]


def turned_numbers(p, w, numbers):
    """The numbers turned, by halves as long as there are two."""
    n = len(numbers)
    if n % 2 == 1:
        return turned_straight(p, w, numbers)
    evens = turned_numbers(p, w * w % p, numbers[0::2])
    odds = turned_numbers(p, w * w % p, numbers[1::2])
    later = [odd * factor % p for odd, factor in zip(odds, power_rests(p, w, n // 2))]
    # w to the power of n / 2 has the rest of -1.
    firsts = [(even + odd) % p for even, odd in zip(evens, later)]
    return firsts + [(even - odd) % p for even, odd in zip(evens, later)]


def turned(p, w, strip):
    """The strip whose k-th number is the rest of the sum of the i-th numbers times w ** (i * k)."""
    return tuple(turned_numbers(p, w, [number % p for number in strip]))


def turned_back(p, w, strip):
    """The strip of rests that turned are those of this one."""
    share = inverse(p, len(strip))
    return tuple([number * share % p for number in turned(p, inverse(p, w), strip)])


def cyclic(p, one, other):
    """The product round of two strips of n numbers: the k-th is of all places i and j with i + j = k or k + n."""
    n = len(one)
    return tuple([sum([number * other[(k - i) % n] for i, number in enumerate(one)]) % p for k in range(n)])
