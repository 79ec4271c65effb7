"""What [23] says of products by turned rows, and [3] (d) of them."""

import math
import unittest

from partmill.byfields import by_fields, by_turning
from partmill.errors import NoRoot, TooGreat
from partmill.rows import number_of, row_of
from tests.primes import ALL_PRIMES, primes_for
from tests.things import all_whole, chance, refused, some_row


def round_size(n, m):
    """The least power of 2 that is no less than both lengths together."""
    return next(1 << k for k in range(12) if 1 << k >= n + m)


def greatest_sum(base, one, other):
    return min(len(one), len(other)) * (base - 1) * (base - 1)


def product_row(base, one, other):
    return row_of(base, number_of(base, one) * number_of(base, other))


def primes_above(bound, n):
    """As few of the primes with a root of n as are together above the bound, the greatest ones."""
    told = ()
    for p in reversed(primes_for(n)):
        if math.prod(told) > bound:
            break
        told += (p,)
    return told


class Rows(unittest.TestCase):
    def check(self, asked, base, field, one, other):
        wanted = product_row(base, one, other)
        for left, right in ((one, other), (other, one)):
            told = asked(base, field, left, right)
            self.assertEqual(told, wanted)
            self.assertTrue(all_whole(told))


class ByTurning(Rows):
    def test_products(self):
        luck = chance(2300)
        for base in (2, 3, 10, 16, 100):
            for n, m in ((1, 1), (1, 2), (2, 2), (3, 1), (3, 3), (4, 4), (5, 4), (7, 1), (9, 8), (16, 16), (17, 40), (1, 64)):
                size = round_size(n, m)
                for one, other in (
                    (some_row(luck, base, n), some_row(luck, base, m)), ((base - 1,) * n, (base - 1,) * m),
                    ((0,) * (n - 1) + (1,), (0,) * (m - 1) + (base - 1,)),
                ):
                    fit = [p for p in primes_for(size) if p > greatest_sum(base, one, other)]
                    for p in (fit[0], fit[-1]):
                        self.check(by_turning, base, p, one, other)

    def test_great_rows(self):
        luck = chance(2301)
        for base in (2, 10, 40):
            p = primes_for(1024)[-1]
            self.check(by_turning, base, p, some_row(luck, base, 400), some_row(luck, base, 399))
            self.check(by_turning, base, p, (base - 1,) * 400, (base - 1,) * 400)

    def test_known(self):
        self.assertEqual(by_turning(10, 97, (9,), (9,)), (1, 8))
        self.assertEqual(by_turning(2, 3, (1,), (1,)), (1,))
        self.assertEqual(by_turning(10, 193, (2, 1), (2, 1)), (4, 4, 1))
        self.assertEqual(by_turning(2, 5, (1, 1, 1), (1,)), (1, 1, 1))

    def test_just_below_and_just_not(self):
        # The shorter length times the square of the greatest figure, about the prime.
        for p in ALL_PRIMES[1:60]:
            for base in range(2, 16):
                for n, m in ((1, 1), (2, 1), (1, 3), (2, 2), (3, 5), (4, 4)):
                    one, other = (base - 1,) * n, (base - 1,) * m
                    if (p - 1) % round_size(n, m) != 0:
                        refused(self, NoRoot, by_turning, base, p, one, other)
                    elif greatest_sum(base, one, other) < p:
                        self.check(by_turning, base, p, one, other)
                    else:
                        refused(self, TooGreat, by_turning, base, p, one, other)
                        refused(self, TooGreat, by_fields, base, (p,), one, other)

    def test_one_less_and_one_more(self):
        # The prime itself it cannot be: then there would be no root.
        for base, p, n, m in ((5, 17, 1, 1), (5, 17, 1, 15), (7, 37, 1, 3), (3, 17, 4, 12), (2, 3, 1, 1)):
            self.assertLess(p - 3, n * (base - 1) * (base - 1))
            self.check(by_turning, base, p, (base - 1,) * n, (base - 1,) * m)
        for base, p, n, m in ((3, 3, 1, 1), (4, 17, 2, 2), (4, 17, 2, 14), (8, 97, 2, 2)):
            self.assertEqual(p + 1, n * (base - 1) * (base - 1))
            refused(self, TooGreat, by_turning, base, p, (base - 1,) * n, (base - 1,) * m)
            # Lengths count, not figures.
            refused(self, TooGreat, by_turning, base, p, (1,) * n, (0,) * (m - 1) + (1,))
        # The shorter length alone counts, both of them for the root.
        self.check(by_turning, 5, 17, (4,), (4,) * 15)
        refused(self, NoRoot, by_turning, 5, 17, (4,), (4,) * 16)

    def test_no_root_ahead_of_too_great(self):
        for p in (2, 3, 7, 11, 23, 999983):
            refused(self, NoRoot, by_turning, 10 ** 6, p, (1,) * 3, (1,) * 3)
        refused(self, TooGreat, by_turning, 10 ** 6, 17, (1,) * 3, (1,) * 3)
        refused(self, NoRoot, by_turning, 2, 2, (1,), (1,))
        refused(self, NoRoot, by_turning, 2, 3, (1,), (1, 1))
        refused(self, NoRoot, by_turning, 10, 999983, (1,), (1, 1))
        self.check(by_turning, 10, 999983, (9,), (9,))

    def test_nought_ahead_of_refusals(self):
        for p in (2, 3, 17, 999983):
            for base in (2, 10, 10 ** 6):
                for row in ((), (1,), (1,) * 3, (1,) * 400):
                    self.assertEqual(by_turning(base, p, (), row), ())
                    self.assertEqual(by_turning(base, p, row, ()), ())

    def test_asked_again(self):
        one, other = (1, 2, 3), (4, 5)
        self.assertEqual(by_turning(10, 257, one, other), by_turning(10, 257, one, other))
        self.assertEqual((one, other), ((1, 2, 3), (4, 5)))


class ByFields(Rows):
    def test_products(self):
        luck = chance(2302)
        for base in (2, 10, 1000, 65537, 10 ** 6):
            for n, m in ((1, 1), (1, 2), (2, 2), (3, 1), (4, 4), (5, 4), (9, 8), (16, 16), (17, 40), (1, 64)):
                size = round_size(n, m)
                for one, other in (
                    (some_row(luck, base, n), some_row(luck, base, m)), ((base - 1,) * n, (base - 1,) * m),
                ):
                    primes = primes_above(greatest_sum(base, one, other), size)
                    self.check(by_fields, base, primes, one, other)
                    self.check(by_fields, base, primes[::-1], one, other)
                    self.check(by_fields, base, primes + tuple(primes_for(size)[:3]), one, other)

    def test_one_prime_is_by_turning(self):
        luck = chance(2303)
        for n, m in ((1, 1), (2, 5), (8, 8)):
            one, other = some_row(luck, 10, n), some_row(luck, 10, m)
            for p in primes_for(round_size(n, m))[10:30]:
                if p > greatest_sum(10, one, other):
                    self.assertEqual(by_fields(10, (p,), one, other), by_turning(10, p, one, other))

    def test_forty_primes(self):
        luck = chance(2304)
        primes = tuple(primes_for(64)[-40:])
        for one, other in ((some_row(luck, 10 ** 6, 30), some_row(luck, 10 ** 6, 34)), ((999999,) * 20, (999999,) * 44)):
            self.check(by_fields, 10 ** 6, primes, one, other)

    def test_great_rows(self):
        luck = chance(2305)
        primes = tuple(primes_for(1024)[-3:])
        one, other = some_row(luck, 10 ** 6, 400), some_row(luck, 10 ** 6, 400)
        self.check(by_fields, 10 ** 6, primes, one, other)
        self.check(by_fields, 10 ** 6, primes, (999999,) * 400, (999999,) * 400)

    def test_just_below_and_just_not(self):
        for primes in ((3, 5), (5, 3), (5, 13), (3, 5, 7), (17, 5), (5, 13, 17), (17, 97), (3, 17, 11)):
            for base in range(2, 40):
                for n, m in ((1, 1), (2, 1), (2, 2), (3, 5), (8, 7)):
                    one, other = (base - 1,) * n, (base - 1,) * m
                    size = round_size(n, m)
                    if any((p - 1) % size != 0 for p in primes):
                        refused(self, NoRoot, by_fields, base, primes, one, other)
                    elif greatest_sum(base, one, other) < math.prod(primes):
                        self.check(by_fields, base, primes, one, other)
                    else:
                        refused(self, TooGreat, by_fields, base, primes, one, other)

    def test_one_less_and_one_more(self):
        self.check(by_fields, 9, (5, 13), (8,), (8,))
        self.check(by_fields, 9, (13, 5), (8,), (8,) * 3)
        refused(self, TooGreat, by_fields, 10, (5, 13), (9,), (9,))
        refused(self, TooGreat, by_fields, 5, (3, 5), (4,), (4,))
        refused(self, TooGreat, by_fields, 5, (5, 3), (1,), (1,))
        self.check(by_fields, 4, (5, 3), (3,), (3,))
        # 4 * 20 * 20 is below 17 * 97, 4 * 21 * 21 is not.
        self.check(by_fields, 21, (17, 97), (20,) * 4, (20,) * 4)
        refused(self, TooGreat, by_fields, 22, (17, 97), (21,) * 4, (21,) * 4)

    def test_no_root_ahead_of_too_great(self):
        refused(self, NoRoot, by_fields, 10 ** 6, (17, 7), (1,) * 3, (1,) * 3)
        refused(self, NoRoot, by_fields, 10 ** 6, (7, 17), (1,) * 3, (1,) * 3)
        refused(self, NoRoot, by_fields, 10 ** 6, (17, 41, 97, 2), (1,) * 3, (1,) * 3)
        refused(self, TooGreat, by_fields, 10 ** 6, (17, 41, 97), (1,) * 3, (1,) * 3)
        refused(self, NoRoot, by_fields, 2, (3, 2), (1,), (1,))

    def test_nought_ahead_of_refusals(self):
        for primes in ((2,), (3, 2), (17, 41, 97), tuple(ALL_PRIMES[-40:])):
            for base in (2, 10, 10 ** 6):
                for row in ((), (1,), (1,) * 3, (1,) * 400):
                    self.assertEqual(by_fields(base, primes, (), row), ())
                    self.assertEqual(by_fields(base, primes, row, ()), ())

    def test_asked_again(self):
        one, other, primes = (1, 2, 3), (4, 5), (257, 17)
        self.assertEqual(by_fields(10, primes, one, other), by_fields(10, primes, one, other))
        self.assertEqual((one, other, primes), ((1, 2, 3), (4, 5), (257, 17)))


if __name__ == "__main__":
    unittest.main()
