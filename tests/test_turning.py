"""What [21] says of turned strips, and [3] (f) of them."""

import unittest

from partmill.turning import cyclic, turned, turned_back
from tests.primes import rests_of, roots_for_tests, sums_turned
from tests.things import all_whole, chance, some_number, some_strip

SIZES = (1, 2, 3, 4, 5, 6, 7, 8, 9, 10, 12, 15, 16, 18, 20, 25, 27, 32, 48, 64)


def sums_round(p, one, other):
    """Each product put to the place that it comes to."""
    told = [0] * len(one)
    for i, left in enumerate(one):
        for j, right in enumerate(other):
            told[(i + j) % len(one)] += left * right
    return tuple(number % p for number in told)


def strips(luck, p, n):
    """Strips of n numbers: small, of 60 figures, of either sign, about the prime."""
    great = 10 ** 60 - 1
    return [
        (0,) * n, (1,) + (0,) * (n - 1), (0,) * (n - 1) + (1,), (p - 1,) * n, (p,) * n, (-1,) * n,
        (great, -great) * (n // 2) + (great,) * (n % 2),
        some_strip(luck, n, 2), some_strip(luck, n, 6), some_strip(luck, n, 60),
        tuple(luck.choice((-p - 1, -p, -1, 0, 1, p - 1, p, p + 1, 7 * p + 3)) for unused in range(n)),
    ]


class Turned(unittest.TestCase):
    def test_sums(self):
        luck = chance(2100)
        for n in SIZES:
            for p, w in roots_for_tests(n):
                with self.subTest(n=n, p=p, w=w):
                    for strip in strips(luck, p, n):
                        told = turned(p, w, strip)
                        self.assertEqual(told, sums_turned(p, w, strip))
                        self.assertTrue(all_whole(told))

    def test_greatest_strips(self):
        luck = chance(2101)
        for n in (199, 200, 192, 128):
            p, w = roots_for_tests(n)[-1]
            strip = some_strip(luck, n, 60)
            told = turned(p, w, strip)
            self.assertEqual(told, sums_turned(p, w, strip))
            self.assertEqual(turned_back(p, w, told), rests_of(p, strip))

    def test_known(self):
        self.assertEqual(turned(2, 1, (7,)), (1,))
        self.assertEqual(turned(7, 1, (-1,)), (6,))
        self.assertEqual(turned(7, 6, (1, 2)), (3, 6))
        self.assertEqual(turned(5, 4, (10 ** 60, 1)), (1, 4))
        self.assertEqual(turned(7, 2, (1, 2, 3)), (6, 3, 1))
        self.assertEqual(turned(7, 4, (1, 2, 3)), (6, 1, 3))
        self.assertEqual(turned(5, 2, (1, 2, 3, 4)), (0, 4, 3, 2))
        self.assertEqual(turned(7, 3, (1, 2, 3, 4, 5, 6)), (0, 3, 6, 4, 2, 5))
        self.assertEqual(turned_back(7, 6, (3, 6)), (1, 2))
        self.assertEqual(turned_back(5, 2, (0, 4, 3, 2)), (1, 2, 3, 4))
        self.assertEqual(turned_back(5, 2, (-10, 9, 8, -3)), (1, 2, 3, 4))

    def test_there_and_back(self):
        luck = chance(2102)
        for n in SIZES:
            for p, w in roots_for_tests(n):
                with self.subTest(n=n, p=p, w=w):
                    for strip in strips(luck, p, n):
                        back = turned_back(p, w, turned(p, w, strip))
                        self.assertEqual(back, rests_of(p, strip))
                        self.assertTrue(all_whole(back))
                        there = turned(p, w, turned_back(p, w, strip))
                        self.assertEqual(there, rests_of(p, strip))

    def test_asked_again(self):
        strip = (10 ** 60, -4, 0, 17)
        self.assertEqual(turned(5, 3, strip), turned(5, 3, strip))
        self.assertEqual(turned_back(5, 3, strip), turned_back(5, 3, strip))
        self.assertEqual(strip, (10 ** 60, -4, 0, 17))


class Cyclic(unittest.TestCase):
    def test_sums(self):
        luck = chance(2103)
        for n in range(1, 21):
            for p in (2, 3, 17, 999983):
                with self.subTest(n=n, p=p):
                    ones = strips(luck, p, n)
                    others = strips(luck, p, n)[::-1]
                    for one, other in zip(ones, others):
                        told = cyclic(p, one, other)
                        self.assertEqual(told, sums_round(p, one, other))
                        self.assertTrue(all_whole(told))
                        self.assertEqual(cyclic(p, other, one), told)

    def test_greatest_strips(self):
        luck = chance(2104)
        one, other = some_strip(luck, 200, 60), some_strip(luck, 200, 60)
        self.assertEqual(cyclic(999983, one, other), sums_round(999983, one, other))

    def test_known(self):
        self.assertEqual(cyclic(7, (3,), (-4,)), (2,))
        self.assertEqual(cyclic(101, (1, 2), (3, 4)), (11, 10))
        self.assertEqual(cyclic(101, (1, 2, 3), (0, 1, 0)), (3, 1, 2))
        self.assertEqual(cyclic(101, (1, 2, 3), (0, 0, 1)), (2, 3, 1))
        self.assertEqual(cyclic(2, (1, 1, 1), (1, 1, 1)), (1, 1, 1))

    def test_products_of_turned_strips(self):
        luck = chance(2105)
        for n in SIZES:
            for p, w in roots_for_tests(n):
                one = tuple(some_number(luck, 60) for unused in range(n))
                for other in (one, some_strip(luck, n, 60), some_strip(luck, n, 3)):
                    lefts, rights = turned(p, w, one), turned(p, w, other)
                    by_place = tuple(left * right % p for left, right in zip(lefts, rights))
                    self.assertEqual(by_place, turned(p, w, cyclic(p, one, other)))
                    self.assertEqual(turned_back(p, w, by_place), cyclic(p, one, other))

    def test_asked_again(self):
        one, other = (10 ** 60, -4, 0), (5, 6, -7)
        self.assertEqual(cyclic(5, one, other), cyclic(5, one, other))
        self.assertEqual((one, other), ((10 ** 60, -4, 0), (5, 6, -7)))


if __name__ == "__main__":
    unittest.main()
