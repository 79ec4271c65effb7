"""Primes and roots for tests, found by trying, and strips turned as [21] tells it."""

import math


def sieve(most):
    """All primes to most."""
    told = [True] * (most + 1)
    told[:2] = [False, False]
    for at in range(2, most + 1):
        if told[at]:
            for more in range(at * at, most + 1, at):
                told[more] = False
    return [at for at in range(most + 1) if told[at]]


def order(p, w):
    """The least number from 1 of w's that come to the rest 1, for w from 1 to below p."""
    many, told = 1, w % p
    while told != 1:
        told = told * w % p
        many += 1
    return many


ALL_PRIMES = sieve(10 ** 6)


def primes_for(n):
    """All primes below 10 ** 6 by which there is a root of n."""
    return [p for p in ALL_PRIMES if (p - 1) % n == 0]


def some_primes(n):
    """The least and the greatest prime with a root of n, and one between them."""
    told = primes_for(n)
    return sorted({told[0], told[len(told) // 3], told[-1]})


def roots_of(p, n):
    """All roots of n by p, from the least on."""
    one = next(w for w in (pow(number, (p - 1) // n, p) for number in range(1, p)) if order(p, w) == n)
    return sorted(pow(one, k, p) for k in range(1, n + 1) if math.gcd(k, n) == 1)


def least_and_another(p, n):
    """The least root of n, and another one where there is one."""
    told = roots_of(p, n)
    return sorted({told[0], told[-1]})


def roots_for_tests(n):
    """Some primes with some of their roots of n, as (p, w)."""
    return [(p, w) for p in some_primes(n) for w in least_and_another(p, n)]


def rests_of(p, strip):
    return tuple(number % p for number in strip)


def sums_turned(p, w, strip):
    """The turned strip, each sum reckoned for itself."""
    return tuple(sum(number * pow(w, i * k, p) for i, number in enumerate(strip)) % p for k in range(len(strip)))
