"""Fields: primes, and the roots of 1 among the rests by a prime."""

from partmill.errors import NoRoot
from partmill.kinds import is_whole
from partmill.powers import power_rest


def least_divisor(number):
    """The least divisor above 1 of a number from 2."""
    divisor = 2
    while divisor * divisor <= number:
        if number % divisor == 0:
            return divisor
        divisor += 1
    return number


def is_prime(number):
    """Whether a number is a prime."""
    return number >= 2 and least_divisor(number) == number


def prime_divisors(number):
    """All primes that divide a number from 1, from the least on."""
    primes = []
    while number > 1:
        prime = least_divisor(number)
        primes.append(prime)
        while number % prime == 0:
            number = number // prime
    return primes


def is_root(p, n, w):
    """Whether n is the least number from 1 for which w to the power of it has the rest 1 by the prime p."""
    if not is_whole(n) or not is_whole(w) or n < 1 or w < 1 or w >= p:
        return False
    # The least such number divides p - 1, whatever w is.
    if (p - 1) % n != 0 or power_rest(p, w, n) != 1:
        return False
    return all(power_rest(p, w, n // prime) != 1 for prime in prime_divisors(n))


def some_root(p, n):
    """A root of n, n a divisor of p - 1."""
    number = 1
    while not is_root(p, n, power_rest(p, number, (p - 1) // n)):
        number += 1
    return power_rest(p, number, (p - 1) // n)


def root(p, n):
    """The least root of n by the prime p."""
    if (p - 1) % n != 0:
        raise NoRoot("n does not divide p - 1")
    some = some_root(p, n)
    least = some
    # All roots of n are powers of any one of them.
    walked = some
    for k in range(2, n):
        walked = walked * some % p
        if walked < least and is_root(p, n, walked):
            least = walked
    return least
