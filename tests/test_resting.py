"""What [19] and [20] say of rests, and [3] (d), (e) of them."""

import itertools
import math
import unittest

from partmill.errors import Shared, TooGreat
from partmill.resting import by_rests, mixed, put_back, rests, shared, shows_mixed
from partmill.rows import number_of, row_of
from tests.things import all_whole, chance, deep_things, flat_things, no_numbers, put_at, refused, some_row

FORTY = tuple(number for number in range(999000, 10 ** 6) if all(number % p for p in range(2, 1000)))[:40]
UNSHARED = (
    (2,), (3,), (10,), (999983,), (2, 3), (3, 2), (4, 9), (9, 4, 5), (5, 7, 8, 9, 11), (16, 15, 49, 11, 13),
    (999983, 2), (10 ** 6, 999999), FORTY,
)
SHARED = (
    ((2, 2), (0, 1)), ((6, 4), (0, 1)), ((3, 5, 3), (0, 2)), ((5, 6, 9), (1, 2)), ((6, 5, 9, 10), (0, 2)),
    ((2, 3, 5, 6), (0, 3)), ((7, 4, 6, 14), (0, 3)), ((7, 4, 6, 8), (1, 2)), ((35, 2, 9, 21, 5), (0, 3)),
    ((999983, 2, 3, 999983), (0, 3)), ((10 ** 6, 999999, 2), (0, 2)), (FORTY[:39] + FORTY[38:39], (38, 39)),
    ((4, 2, 2), (0, 1)), ((3, 2, 2, 3), (0, 3)), ((11, 4, 9, 6, 22), (0, 4)),
)


def some_numbers(luck, moduli):
    top = math.prod(moduli)
    return [0, 1, top - 1, top // 2, top - 2] + [luck.randrange(top) for unused in range(5)]


class SharedPairs(unittest.TestCase):
    def test_none(self):
        for moduli in UNSHARED:
            self.assertIs(shared(moduli), None)

    def test_first_pair(self):
        for moduli, places in SHARED:
            self.assertEqual(shared(moduli), places)
            self.assertTrue(all_whole(shared(moduli)))
            self.assertEqual(shared(moduli), places)

    def test_all_triples(self):
        for moduli in itertools.product(range(2, 13), repeat=3):
            found = [(i, j) for i, j in ((0, 1), (0, 2), (1, 2)) if math.gcd(moduli[i], moduli[j]) > 1]
            self.assertEqual(shared(moduli), found[0] if found else None)


class Rests(unittest.TestCase):
    def test_each(self):
        luck = chance(190)
        for moduli in UNSHARED + tuple(moduli for moduli, places in SHARED):
            for number in some_numbers(luck, moduli) + [10 ** 60, math.prod(moduli), 5 * math.prod(moduli) + 3]:
                told = rests(moduli, number)
                self.assertEqual(told, tuple(number - number // modulus * modulus for modulus in moduli))
                self.assertTrue(all_whole(told))

    def test_known(self):
        self.assertEqual(rests((3, 5, 7), 23), (2, 3, 2))
        self.assertEqual(rests((2,), 0), (0,))
        self.assertEqual(rests((10, 10), 123), (3, 3))


class ThereAndBack(unittest.TestCase):
    def check(self, moduli, number):
        there = rests(moduli, number)
        digits = mixed(moduli, there)
        self.assertTrue(all_whole(digits))
        self.assertEqual(len(digits), len(moduli))
        ahead = 1
        told = 0
        for modulus, digit in zip(moduli, digits):
            self.assertTrue(0 <= digit < modulus)
            told += digit * ahead
            ahead *= modulus
        self.assertEqual(told, number)
        self.assertEqual(put_back(moduli, there), number)
        self.assertIs(type(put_back(moduli, there)), int)
        self.assertIs(shows_mixed(moduli, there, digits), True)

    def test_some(self):
        luck = chance(191)
        for moduli in UNSHARED:
            for number in some_numbers(luck, moduli):
                self.check(moduli, number)

    def test_all_of_small_moduli(self):
        for moduli in ((2,), (7,), (2, 3), (3, 4), (3, 2, 5), (5, 7, 4)):
            seen = set()
            for number in range(math.prod(moduli)):
                self.check(moduli, number)
                seen.add(rests(moduli, number))
            self.assertEqual(len(seen), math.prod(moduli))

    def test_by_chance(self):
        luck = chance(192)
        for unused in range(100):
            moduli = ()
            for modulus in [luck.randrange(2, 10 ** luck.randint(1, 6)) for unused in range(12)]:
                if math.gcd(modulus, math.prod(moduli)) == 1:
                    moduli += (modulus,)
            self.check(moduli, luck.randrange(math.prod(moduli)))

    def test_known(self):
        self.assertEqual(mixed((3, 5, 7), (2, 3, 2)), (2, 2, 1))
        self.assertEqual(put_back((3, 5, 7), (2, 3, 2)), 23)
        self.assertEqual(mixed((10,), (7,)), (7,))
        self.assertEqual(put_back((10,), (7,)), 7)

    def test_refused(self):
        for moduli, (first, second) in SHARED:
            for there in (rests(moduli, 0), rests(moduli, 1), tuple(modulus - 1 for modulus in moduli)):
                for asked in (mixed, put_back):
                    refusal = refused(self, Shared, asked, moduli, there)
                    self.assertEqual((refusal.first, refusal.second), (first, second))
                    self.assertTrue(all_whole((refusal.first, refusal.second)))

    def test_asked_again(self):
        moduli, there = (3, 5, 7), (2, 3, 2)
        self.assertEqual(mixed(moduli, there), mixed(moduli, there))
        self.assertEqual(put_back(moduli, there), put_back(moduli, there))
        self.assertEqual((moduli, there), ((3, 5, 7), (2, 3, 2)))


class ShowsMixed(unittest.TestCase):
    def test_all_digits_of_small_moduli(self):
        for moduli in ((2,), (5,), (2, 3), (4, 3), (2, 3, 5)):
            numbers = range(math.prod(moduli))
            for number in numbers:
                there = rests(moduli, number)
                right = mixed(moduli, there)
                for digits in itertools.product(*[range(-1, modulus + 2) for modulus in moduli]):
                    self.assertIs(shows_mixed(moduli, there, digits), digits == right)

    def test_a_digit_otherwise(self):
        luck = chance(193)
        for moduli in UNSHARED:
            for number in some_numbers(luck, moduli)[:4]:
                there = rests(moduli, number)
                digits = mixed(moduli, there)
                for at in {0, len(digits) // 2, len(digits) - 1}:
                    modulus = moduli[at]
                    wrong = {digits[at] + 1, digits[at] - 1, digits[at] + modulus, digits[at] - modulus, modulus, -1}
                    for digit in wrong:
                        self.assertIs(shows_mixed(moduli, there, put_at(digits, at, digit)), False)

    def test_too_few_or_too_many(self):
        luck = chance(194)
        for moduli in UNSHARED:
            for number in some_numbers(luck, moduli):
                there = rests(moduli, number)
                digits = mixed(moduli, there)
                for wrong in ((), digits[:-1], digits[1:] if len(digits) > 1 else (), digits + (0,), digits + (1,)):
                    self.assertIs(shows_mixed(moduli, there, wrong), False)

    def test_other_rests(self):
        self.assertIs(shows_mixed((3, 5), (2, 3), (2, 2)), True)
        self.assertIs(shows_mixed((3, 5), (1, 3), (2, 2)), False)
        self.assertIs(shows_mixed((3, 5), (2, 2), (2, 2)), False)

    def test_moduli_that_share(self):
        self.assertIs(shows_mixed((2, 2), (0, 0), (0, 0)), False)
        self.assertIs(shows_mixed((6, 4), (1, 1), (1, 0)), False)
        for moduli, places in SHARED:
            nought = (0,) * len(moduli)
            self.assertIs(shows_mixed(moduli, nought, nought), False)
            one = (1,) + nought[1:]
            self.assertIs(shows_mixed(moduli, (1,) * len(moduli), one), False)

    def test_truths(self):
        self.assertIs(shows_mixed((2,), (1,), (1,)), True)
        self.assertIs(shows_mixed((2,), (1,), (True,)), False)
        self.assertIs(shows_mixed((2, 3), (0, 0), (0, 0)), True)
        self.assertIs(shows_mixed((2, 3), (0, 0), (0, False)), False)
        self.assertIs(shows_mixed((2, 3), (0, 0), (False, 0)), False)

    def test_anything(self):
        for thing in flat_things() + deep_things() + [0, 1, [2, 2], "2.2", {0: 2}, range(2)]:
            self.assertIs(shows_mixed((3, 5), (2, 3), thing), False)
            self.assertIs(shows_mixed((2,), (1,), thing), False)
            self.assertIs(shows_mixed((2, 2), (1, 1), thing), False)
        for thing in no_numbers():
            for at in (0, 1):
                self.assertIs(shows_mixed((3, 5), (2, 3), put_at((2, 2), at, thing)), False)
            self.assertIs(shows_mixed((2,), (1,), (thing,)), False)

    def test_changes_nothing(self):
        digits = [2, [2]]
        self.assertIs(shows_mixed((3, 5), (2, 3), digits), False)
        self.assertEqual(digits, [2, [2]])


class ByRests(unittest.TestCase):
    def test_products(self):
        luck = chance(200)
        for base in (2, 10, 997, 10 ** 6):
            for n, m in ((0, 0), (0, 1), (3, 0), (1, 1), (1, 5), (4, 2), (9, 9), (19, 20), (20, 20)):
                one, other = some_row(luck, base, n), some_row(luck, base, m)
                moduli = (10 ** 6 + 1,) + FORTY
                while math.prod(moduli) // moduli[-1] > base ** (n + m):
                    moduli = moduli[:-1]
                told = by_rests(base, moduli, one, other)
                self.assertEqual(number_of(base, told), number_of(base, one) * number_of(base, other))
                self.assertTrue(all_whole(told))
                self.assertEqual(told, row_of(base, number_of(base, one) * number_of(base, other)))
                self.assertEqual(by_rests(base, moduli, other, one), told)

    def test_greatest_figures_of_just_great_enough_moduli(self):
        # The product of the moduli is just the base to the power of both lengths together.
        for base, moduli, n, m in ((10, (4, 25), 1, 1), (10, (100,), 1, 1), (6, (8, 27), 2, 1), (6, (27, 8), 1, 2),
                                   (2, (16,), 2, 2), (10, (32, 3125), 0, 5), (10, (32, 3125), 3, 2), (10, (10,), 1, 0)):
            self.assertEqual(math.prod(moduli), base ** (n + m))
            one, other = (base - 1,) * n, (base - 1,) * m
            wanted = row_of(base, number_of(base, one) * number_of(base, other))
            self.assertEqual(by_rests(base, moduli, one, other), wanted)
            for beyond in (one + (1,), ()):
                longer = other + (1,) * (n + 1 - len(beyond))
                refused(self, TooGreat, by_rests, base, moduli, beyond, longer)
                refused(self, TooGreat, by_rests, base, moduli, longer, beyond)

    def test_too_great(self):
        # Just one below and one above the power.
        refused(self, TooGreat, by_rests, 10, (99,), (1,), (1,))
        refused(self, TooGreat, by_rests, 10, (9, 11), (1,), (1,))
        self.assertEqual(by_rests(10, (101,), (9,), (9,)), (1, 8))
        self.assertEqual(by_rests(10, (7, 15), (9,), (9,)), (1, 8))
        # Lengths count, not the numbers; nought has no figures.
        refused(self, TooGreat, by_rests, 10, (2,), (1,), ())
        refused(self, TooGreat, by_rests, 10, (9,), (), (1,))
        self.assertEqual(by_rests(10, (10,), (), (1,)), ())
        self.assertEqual(by_rests(10, (2,), (), ()), ())
        refused(self, TooGreat, by_rests, 10 ** 6, FORTY, (1,) * 20, (1,) * 21)

    def test_shared_ahead_of_too_great(self):
        for moduli, (first, second) in SHARED:
            for one, other in (((), ()), ((1,), (1,)), ((1,) * 400, (1,) * 400), ((), (1,) * 400)):
                refusal = refused(self, Shared, by_rests, 10, moduli, one, other)
                self.assertEqual((refusal.first, refusal.second), (first, second))

    def test_asked_again(self):
        moduli, one, other = (7, 15), (9,), (9,)
        self.assertEqual(by_rests(10, moduli, one, other), by_rests(10, moduli, one, other))
        self.assertEqual((moduli, one, other), ((7, 15), (9,), (9,)))


if __name__ == "__main__":
    unittest.main()
