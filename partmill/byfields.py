"""Products of rows by turned rows, over one field or several."""

from partmill.carrying import carried
from partmill.errors import TooGreat
from partmill.fields import root
from partmill.multiplying import with_noughts
from partmill.powers import twos
from partmill.resting import mixed_number, product_of, unshared_digits
from partmill.turning import turned, turned_back


def product_round(p, w, one, other):
    """The rests of the product round of two strips, w being a root of their size."""
    lefts = turned(p, w, one)
    rights = turned(p, w, other)
    return turned_back(p, w, tuple([left * right for left, right in zip(lefts, rights)]))


def by_fields(base, primes, one, other):
    """The row of two rows' product, out of turned rows for each of unlike primes."""
    if len(one) == 0 or len(other) == 0:
        return ()
    # So many places that no sum of products comes round to another one.
    n = twos(len(one) + len(other))[-1]
    roots = [root(p, n) for p in primes]
    if min(len(one), len(other)) * (base - 1) * (base - 1) >= product_of(primes):
        raise TooGreat("a sum of products may be beyond the primes")
    strips = [product_round(p, w, with_noughts(one, n), with_noughts(other, n)) for p, w in zip(primes, roots)]
    sums = [mixed_number(primes, unshared_digits(primes, rests)) for rests in zip(*strips)]
    return carried(base, tuple(sums))[0]


def by_turning(base, p, one, other):
    """The row of two rows' product, out of turned rows for one prime."""
    return by_fields(base, (p,), one, other)
