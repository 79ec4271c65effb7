"""What [26] and [27] say of roots, and [3] (g) of them."""

import math
import unittest

from partmill.rooting import root_nears, rooted, shows_root_nears
from partmill.rows import is_row, row_of
from tests.things import all_whole, chance, deep_things, flat_things, no_numbers, number_told, put_at, some_row

BASES = (2, 3, 10, 16, 1000, 10 ** 6)


def reckoned_root_nears(base, row):
    """Each number reckoned for itself."""
    u = number_told(base, row)
    t = math.ceil(len(row) / 2)
    told = []
    s = min(2, t)
    while row:
        m = u // base ** (2 * (t - s))
        guess = None
        if told:
            y = told[-1][1] * base ** (s - told[-1][0])
            guess = (y + m // y) // 2
        told.append((s, math.isqrt(m), guess))
        if s == t:
            break
        s = min(t, 2 * s - 1)
    return tuple(told)


def rows_for_tests(luck, base):
    """Rows of each small length and of some greater ones: any, squares, one less, the greatest with the same root."""
    told = {()}
    for many in (1, 2, 3, 4, 5, 6, 7, 8, 9, 10, 11, 18, 19, 33, 34, 65, 66, 67):
        told.add((base - 1,) * many)
        told.add((0,) * (many - 1) + (1,))
        told.add(some_row(luck, base, many))
    for many in (1, 2, 3, 4, 5, 9, 17, 30):
        for root in (base ** (many - 1), base ** many - 1, number_told(base, some_row(luck, base, many))):
            for u in (root * root - 1, root * root, root * root + 1, root * root + 2 * root, (root + 1) ** 2):
                told.add(row_of(base, u))
    return sorted(told)


class RootNears(unittest.TestCase):
    def test_reckoned(self):
        luck = chance(2600)
        for base in BASES:
            for row in rows_for_tests(luck, base):
                with self.subTest(base=base, row=row):
                    told = root_nears(base, row)
                    self.assertEqual(told, reckoned_root_nears(base, row))
                    self.assertIs(type(told), tuple)
                    for at, (s, r, guess) in enumerate(told):
                        self.assertTrue(all_whole((s, r)))
                        if at == 0:
                            self.assertIs(guess, None)
                        else:
                            self.assertTrue(all_whole(guess))
                            self.assertIn(guess - r, (0, 1))

    def test_all_small_numbers(self):
        for base in (2, 3, 10):
            for u in range(1, 3000):
                row = row_of(base, u)
                told = root_nears(base, row)
                self.assertEqual(told, reckoned_root_nears(base, row))
                self.assertEqual(told[-1][1], math.isqrt(u))
                self.assertEqual(told[-1][0], len(row_of(base, math.isqrt(u))))

    def test_sizes(self):
        for many, sizes in (
            (0, ()), (1, (1,)), (2, (1,)), (3, (2,)), (4, (2,)), (5, (2, 3)), (6, (2, 3)), (7, (2, 3, 4)), (8, (2, 3, 4)),
            (9, (2, 3, 5)), (10, (2, 3, 5)), (11, (2, 3, 5, 6)), (18, (2, 3, 5, 9)), (19, (2, 3, 5, 9, 10)),
            (400, (2, 3, 5, 9, 17, 33, 65, 129, 200)),
        ):
            for base in (2, 10, 10 ** 6):
                self.assertEqual(tuple(triple[0] for triple in root_nears(base, (1,) * many)), sizes)

    def test_both_guesses_come(self):
        for base in (2, 10, 1000):
            luck = chance(2601)
            seen = set()
            for row in rows_for_tests(luck, base):
                seen.update(guess - r for s, r, guess in root_nears(base, row)[1:])
            self.assertEqual(seen, {0, 1})

    def test_known(self):
        self.assertEqual(root_nears(10, ()), ())
        self.assertEqual(root_nears(10, (9,)), ((1, 3, None),))
        self.assertEqual(root_nears(10, (8,)), ((1, 2, None),))
        self.assertEqual(root_nears(10, (9, 9)), ((1, 9, None),))
        self.assertEqual(root_nears(10, (0, 0, 1)), ((2, 10, None),))
        self.assertEqual(root_nears(10, (6, 5, 4, 3, 2, 1)), ((2, 35, None), (3, 351, 351)))
        self.assertEqual(root_nears(10, (9, 9, 9, 9, 9, 9)), ((2, 99, None), (3, 999, 1000)))

    def test_greatest_rows(self):
        luck = chance(2602)
        for base in (2, 10, 10 ** 6):
            for row in ((base - 1,) * 400, some_row(luck, base, 399), some_row(luck, base, 400)):
                told = root_nears(base, row)
                self.assertEqual(told, reckoned_root_nears(base, row))
                self.assertIs(shows_root_nears(base, row, told), True)

    def test_asked_again(self):
        row = (1, 2, 3, 4, 5, 6, 7)
        self.assertEqual(root_nears(10, row), root_nears(10, row))
        self.assertEqual(rooted(10, row), rooted(10, row))
        self.assertEqual(row, (1, 2, 3, 4, 5, 6, 7))


class ShowsRootNears(unittest.TestCase):
    def check(self, wanted, base, row, thing):
        self.assertIs(shows_root_nears(base, row, thing), wanted)
        self.assertIs(shows_root_nears(base, row, thing), wanted)

    def test_what_root_nears_tells(self):
        luck = chance(2603)
        for base in BASES:
            for row in rows_for_tests(luck, base):
                self.check(True, base, row, root_nears(base, row))

    def test_one_number_otherwise(self):
        luck = chance(2604)
        for base in (2, 10, 10 ** 6):
            for row in rows_for_tests(luck, base)[1::3]:
                right = root_nears(base, row)
                for at, triple in enumerate(right):
                    for place in range(3 if at > 0 else 2):
                        for more in (1, -1, base, -base, 10 ** 60):
                            wrong = put_at(triple, place, triple[place] + more)
                            self.check(False, base, row, put_at(right, at, wrong))
                        for other in (None, -triple[place], -triple[place] - 1, 0):
                            self.check(False, base, row, put_at(right, at, put_at(triple, place, other)))
                for number in (0, right[0][1], -1):
                    self.check(False, base, row, put_at(right, 0, put_at(right[0], 2, number)))

    def test_a_guess_that_is_right_but_not_so_made(self):
        luck = chance(2605)
        for unused in range(100):
            row = some_row(luck, 10, luck.randint(9, 10))
            right = root_nears(10, row)
            for at in (1, 2):
                s, r, guess = right[at]
                for other in (r, r + 1):
                    self.check(other == guess, 10, row, put_at(right, at, (s, r, other)))

    def test_too_few_or_too_many(self):
        luck = chance(2606)
        for base in (2, 10, 10 ** 6):
            for many in (1, 2, 3, 4, 5, 8, 11, 40):
                row = some_row(luck, base, many)
                right = root_nears(base, row)
                self.check(False, base, row, ())
                self.check(False, base, row, right[:-1])
                self.check(False, base, row, right[1:])
                self.check(False, base, row, right + right[-1:])
                self.check(False, base, row, right[:1] + right)
                self.check(False, base, row, right + ((),))
                for at in range(len(right)):
                    self.check(False, base, row, right[:at] + right[at + 1:])
                    self.check(False, base, row, put_at(right, at, right[at][:2]))
                    self.check(False, base, row, put_at(right, at, right[at] + (None,)))
                    self.check(False, base, row, put_at(right, at, ()))
                self.check(False, base, row + (1, 1), right)

    def test_nought(self):
        for base in BASES:
            self.check(True, base, (), ())
            for thing in (((),), ((0, 0, None),), ((1, 0, None),), root_nears(base, (1,)), [], None, 0, "", {}):
                self.check(False, base, (), thing)
            self.check(False, base, (1,), ())

    def test_truths_and_lists(self):
        self.check(True, 10, (1,), ((1, 1, None),))
        self.check(False, 10, (1,), ((True, 1, None),))
        self.check(False, 10, (1,), ((1, True, None),))
        self.check(False, 10, (1,), ((1, 1.0, None),))
        self.check(False, 10, (1,), ((1, 1, False),))
        self.check(False, 10, (1,), ((1, -2, None),))
        self.check(False, 10, (1,), [(1, 1, None)])
        self.check(False, 10, (1,), ([1, 1, None],))
        row = (6, 5, 4, 3, 2, 1)
        right = root_nears(10, row)
        self.check(False, 10, row, list(right))
        for at in range(len(right)):
            self.check(False, 10, row, put_at(right, at, list(right[at])))
            for place in range(3):
                self.check(False, 10, row, put_at(right, at, put_at(right[at], place, True)))
                self.check(False, 10, row, put_at(right, at, put_at(right[at], place, str(right[at][place]))))

    def test_anything(self):
        for row in ((9,), (6, 5, 4, 3, 2, 1)):
            right = root_nears(10, row)
            for thing in flat_things() + deep_things() + [0, 1, (1,), str(right), {0: right}, iter(right)]:
                self.check(False, 10, row, thing)
                self.check(False, 10, (), thing)
            for thing in no_numbers():
                for at, triple in enumerate(right):
                    self.check(False, 10, row, put_at(right, at, thing))
                    for place in range(3):
                        if at > 0 or place < 2 or thing is not None:
                            self.check(False, 10, row, put_at(right, at, put_at(triple, place, thing)))

    def test_changes_nothing(self):
        thing = [[1, 3, None]]
        self.check(False, 10, (9,), thing)
        self.assertEqual(thing, [[1, 3, None]])


class Rooted(unittest.TestCase):
    def test_root_and_what_is_left(self):
        luck = chance(2700)
        for base in BASES:
            for row in rows_for_tests(luck, base) + [some_row(luck, base, 400)]:
                told = rooted(base, row)
                self.assertIs(type(told), tuple)
                self.assertTrue(all_whole(told))
                root, left = told
                self.assertTrue(is_row(base, root) and is_row(base, left))
                u = number_told(base, row)
                self.assertEqual(number_told(base, root), math.isqrt(u))
                self.assertEqual(number_told(base, left), u - math.isqrt(u) ** 2)

    def test_known(self):
        self.assertEqual(rooted(10, ()), ((), ()))
        self.assertEqual(rooted(10, (1,)), ((1,), ()))
        self.assertEqual(rooted(10, (9, 9)), ((9,), (8, 1)))
        self.assertEqual(rooted(10, (0, 0, 1)), ((0, 1), ()))
        self.assertEqual(rooted(2, (1, 1)), ((1,), (0, 1)))
        self.assertEqual(rooted(10 ** 6, (0, 0, 1)), ((0, 1), ()))


if __name__ == "__main__":
    unittest.main()
