"""What [25] says of quotients, and [3] (g) of them."""

import unittest

from partmill.dividing import divided
from partmill.errors import NoDivisor
from partmill.nearing import nears
from partmill.rows import is_row, row_of
from tests.things import all_whole, chance, number_told, refused, some_row

BASES = (2, 3, 10, 16, 1000, 10 ** 6)


def reckoned_guess(base, one, other):
    """u * x by base ** (n + s), s the first power of 2 that is no less than 1 and u's length less n."""
    n = len(other)
    s = 1
    while s < len(one) - n:
        s *= 2
    x = base ** (n + s) // number_told(base, other)
    return number_told(base, one) * x // base ** (n + s)


class Divided(unittest.TestCase):
    def check(self, base, one, other):
        told = divided(base, one, other)
        self.assertIs(type(told), tuple)
        self.assertTrue(all_whole(told))
        quotient, rest, guess = told
        u, v = number_told(base, one), number_told(base, other)
        self.assertTrue(is_row(base, quotient) and is_row(base, rest))
        self.assertEqual((number_told(base, quotient), number_told(base, rest)), (u // v, u - u // v * v))
        self.assertEqual(guess, reckoned_guess(base, one, other))
        self.assertIn(u // v - guess, (0, 1))
        s, x, unused = nears(base, other, max(1, len(one) - len(other)))[-1]
        self.assertEqual(guess, u * x // base ** (len(other) + s))
        return u // v - guess

    def divisors(self, luck, base):
        told = [(1,), (base - 1,), (0, 1), (0,) * 6 + (1,), (base - 1,) * 6, (1,) + (0,) * 5 + (1,)]
        return told + [some_row(luck, base, many) for many in (1, 2, 3, 7, 20)]

    def test_lengths(self):
        luck = chance(2500)
        for base in BASES:
            for other in self.divisors(luck, base):
                n = len(other)
                for many in sorted({0, 1, n - 1, n, n + 1, n + 2, n + 3, n + 4, n + 5, 2 * n, 3 * n + 1, n + 33}):
                    for one in (some_row(luck, base, many), (base - 1,) * many):
                        with self.subTest(base=base, one=one, other=other):
                            self.check(base, one, other)

    def test_times_the_divisor(self):
        luck = chance(2501)
        for base in BASES:
            for other in self.divisors(luck, base):
                for times in (1, 2, base - 1, base, base + 1, base ** 7, luck.randrange(1, base ** 12)):
                    for more in (-1, 0, 1):
                        self.check(base, row_of(base, times * number_told(base, other) + more), other)

    def test_both_guesses_come(self):
        luck = chance(2502)
        for base in (2, 10, 10 ** 6):
            seen = set()
            for other in self.divisors(luck, base):
                for times in (1, base, base ** 3):
                    seen.add(self.check(base, row_of(base, times * number_told(base, other)), other))
                    seen.add(self.check(base, row_of(base, times * number_told(base, other) - 1), other))
            self.assertEqual(seen, {0, 1})

    def test_greatest_rows(self):
        luck = chance(2503)
        for base in (2, 10 ** 6):
            for many in (1, 5, 200, 399, 400):
                self.check(base, some_row(luck, base, 400), some_row(luck, base, many))
                self.check(base, some_row(luck, base, many), some_row(luck, base, 400))
                self.check(base, (base - 1,) * 400, (base - 1,) * many)

    def test_known(self):
        self.assertEqual(divided(10, (0, 0, 1), (7,)), ((4, 1), (2,), 14))
        self.assertEqual(divided(10, (), (7,)), ((), (), 0))
        self.assertEqual(divided(10, (6,), (7,)), ((), (6,), 0))
        self.assertEqual(divided(10, (7,), (7,)), ((1,), (), 0))
        self.assertEqual(divided(10, (5, 1), (3,)), ((5,), (), 4))
        self.assertEqual(divided(10, (4, 3, 2, 1), (0, 1)), ((3, 2, 1), (4,), 123))

    def test_refused(self):
        luck = chance(2504)
        for base in BASES:
            for many in (0, 1, 2, 9, 400):
                refused(self, NoDivisor, divided, base, some_row(luck, base, many), ())

    def test_asked_again(self):
        one, other = (1, 2, 3), (4, 5)
        self.assertEqual(divided(10, one, other), divided(10, one, other))
        self.assertEqual((one, other), ((1, 2, 3), (4, 5)))


if __name__ == "__main__":
    unittest.main()
