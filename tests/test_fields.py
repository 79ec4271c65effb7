"""What [21] says of primes and roots."""

import unittest

from partmill.errors import NoRoot
from partmill.fields import is_prime, is_root, root
from tests.primes import order, sieve
from tests.things import all_whole, chance, no_numbers, refused

PRIMES = sieve(5000)
SMALL = PRIMES[:25]


class IsPrime(unittest.TestCase):
    def test_small_numbers(self):
        wanted = set(PRIMES)
        for number in range(-50, 5001):
            self.assertIs(is_prime(number), number in wanted, number)

    def test_below_two(self):
        for number in (1, 0, -1, -2, -3, -5, -7, -999983, -10 ** 60):
            self.assertIs(is_prime(number), False)

    def test_squares_and_products_of_primes(self):
        luck = chance(210)
        for prime in PRIMES[:170] + [999983]:
            self.assertIs(is_prime(prime * prime), False)
        for unused in range(200):
            self.assertIs(is_prime(luck.choice(PRIMES) * luck.choice(PRIMES)), False)
        for number in (999983 * 2, 997 * 1009, 991 * 997, 561, 1105, 1729, 2047, 1373653, 25326001):
            self.assertIs(is_prime(number), False)

    def test_greater_primes(self):
        for number in (65537, 786433, 999961, 999979, 999983, 1000003, 998244353, 10 ** 9 + 7, 2 ** 31 - 1):
            self.assertIs(is_prime(number), True)
        for number in (65536, 786435, 999981, 999985, 10 ** 6, 2 ** 31 + 1, 10 ** 60, 3 ** 100):
            self.assertIs(is_prime(number), False)


class IsRoot(unittest.TestCase):
    def test_all_of_small_primes(self):
        for p in SMALL:
            orders = {w: order(p, w) for w in range(1, p)}
            for w in range(-p, 2 * p + 2):
                for n in range(-2, p + 3):
                    self.assertIs(is_root(p, n, w), w in orders and orders[w] == n, (p, n, w))

    def test_known(self):
        self.assertIs(is_root(2, 1, 1), True)
        self.assertIs(is_root(2, 1, 0), False)
        self.assertIs(is_root(2, 2, 1), False)
        self.assertIs(is_root(7, 3, 2), True)
        self.assertIs(is_root(7, 6, 2), False)
        self.assertIs(is_root(7, 6, 3), True)
        self.assertIs(is_root(7, 3, 9), False)
        self.assertIs(is_root(7, 3, -5), False)
        self.assertIs(is_root(7, 2, 6), True)
        self.assertIs(is_root(7, 2, -1), False)

    def test_far_off(self):
        for p in (2, 3, 17, 999983):
            for n in (0, -1, -p, p, p + 1, 2 * (p - 1), 10 ** 60, -10 ** 60, (2 ** 61 - 1) * (2 ** 89 - 1)):
                for w in (0, 1, -1, p - 1, p, p + 1, 10 ** 60, -10 ** 60):
                    self.assertIs(is_root(p, n, w), False)
            for w in (0, -1, p, p + 1, 2 * p - 1, 10 ** 60, -10 ** 60, 1 - p, 1 + 10 * p):
                for n in (1, 2, p - 1):
                    self.assertIs(is_root(p, n, w), False)

    def test_greater_primes(self):
        luck = chance(211)
        for p in (7681, 12289, 65537):
            for unused in range(10):
                w = luck.randrange(1, p)
                n = order(p, w)
                self.assertIs(is_root(p, n, w), True)
                for other in (1, 2, n - 1, n + 1, 2 * n, n // 2, p - 1):
                    self.assertIs(is_root(p, other, w), other == n)

    def test_no_numbers(self):
        for thing in no_numbers():
            self.assertIs(is_root(7, thing, 1), False)
            self.assertIs(is_root(7, 1, thing), False)


class Root(unittest.TestCase):
    def test_all_of_small_primes(self):
        for p in SMALL + [257]:
            least = {}
            for w in range(p - 1, 0, -1):
                least[order(p, w)] = w
            for n in range(1, 2 * p + 3):
                if n in least:
                    self.assertEqual(root(p, n), least[n], (p, n))
                else:
                    refused(self, NoRoot, root, p, n)

    def test_just_where_it_is_refused(self):
        for p in (2, 3, 5, 13, 97):
            for n in range(1, 3 * p):
                if any(times * n == p - 1 for times in range(p)):
                    self.assertIs(is_root(p, n, root(p, n)), True)
                else:
                    refused(self, NoRoot, root, p, n)

    def test_edges(self):
        for p in (2, 3, 5, 7, 257, 65537, 999983):
            self.assertEqual(root(p, 1), 1)
            if p > 2:
                self.assertEqual(root(p, 2), p - 1)
            else:
                refused(self, NoRoot, root, p, 2)
            refused(self, NoRoot, root, p, p)
            refused(self, NoRoot, root, p, p + 1)
            refused(self, NoRoot, root, p, 2 * p)

    def test_known(self):
        self.assertEqual(root(3, 2), 2)
        self.assertEqual(root(7, 3), 2)
        self.assertEqual(root(7, 6), 3)
        self.assertEqual(root(17, 16), 3)
        self.assertEqual(root(17, 4), 4)
        self.assertEqual(root(41, 40), 6)
        self.assertEqual(root(65537, 65536), 3)
        self.assertEqual(root(999983, 999982), 5)

    def test_greater_primes(self):
        for p in (7681, 12289, 65537, 786433):
            for n in (1, 2, 4, 8, 64, 256, 512):
                told = root(p, n)
                self.assertTrue(all_whole((told,)))
                self.assertEqual(order(p, told), n)
                powers = [pow(told, k, p) for k in range(1, n + 1)]
                self.assertEqual([w for w in powers if w < told and order(p, w) == n], [])
                self.assertEqual(root(p, n), told)


if __name__ == "__main__":
    unittest.main()
