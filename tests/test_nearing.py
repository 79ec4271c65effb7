"""What [24] says of nearing, and [3] (g) of it."""

import unittest

from partmill.errors import NoDivisor
from partmill.nearing import nears, shows_nears
from partmill.rows import row_of
from tests.things import (
    all_whole, chance, deep_things, flat_things, no_numbers, number_told, put_at, refused, some_row,
)

BASES = (2, 3, 10, 16, 1000, 10 ** 6)
LEASTS = (1, 2, 3, 4, 5, 8, 9, 90)


def reckoned_nears(base, row, least):
    """Each number reckoned for itself."""
    n, v = len(row), number_told(base, row)
    told = []
    s = 1
    while True:
        guess = None
        if told:
            old_s, old_x, unused = told[-1]
            taken, rest = divmod(v * old_x * old_x, base ** n)
            guess = 2 * old_x * base ** old_s - taken - (1 if rest else 0)
        told.append((s, base ** (n + s) // v, guess))
        if s >= least:
            return tuple(told)
        s *= 2


def rows_for_tests(luck, base):
    """Powers of the base, one less, one more, of one figure and of many."""
    told = {(1,), (base - 1,), some_row(luck, base, 1), (base - 1,) * 30, some_row(luck, base, 400)}
    for power in (1, 2, 3, 17):
        for more in (-1, 0, 1):
            told.add(row_of(base, base ** power + more))
    for many in (2, 3, 7, 40):
        told.add(some_row(luck, base, many))
    return sorted(told)


class Nears(unittest.TestCase):
    def test_reckoned(self):
        luck = chance(2400)
        for base in BASES:
            for row in rows_for_tests(luck, base):
                for least in LEASTS:
                    with self.subTest(base=base, row=row, least=least):
                        told = nears(base, row, least)
                        self.assertEqual(told, reckoned_nears(base, row, least))
                        self.assertIs(told[0][2], None)
                        self.assertTrue(all_whole((told[0][:2], told[1:])))
                        self.assertIs(type(told[0]), tuple)
                        for s, x, guess in told[1:]:
                            self.assertIn(x - guess, (0, 1))

    def test_sizes(self):
        for least, sizes in (
            (1, (1,)), (2, (1, 2)), (3, (1, 2, 4)), (4, (1, 2, 4)), (5, (1, 2, 4, 8)), (8, (1, 2, 4, 8)),
            (9, (1, 2, 4, 8, 16)), (90, (1, 2, 4, 8, 16, 32, 64, 128)), (400, (1, 2, 4, 8, 16, 32, 64, 128, 256, 512)),
        ):
            self.assertEqual(tuple(triple[0] for triple in nears(10, (7,), least)), sizes)

    def test_known(self):
        self.assertEqual(nears(10, (7,), 1), ((1, 14, None),))
        self.assertEqual(nears(10, (7,), 3), ((1, 14, None), (2, 142, 142), (4, 14285, 14285)))
        self.assertEqual(nears(10, (1,), 2), ((1, 100, None), (2, 1000, 1000)))
        self.assertEqual(nears(10, (9, 9), 2), ((1, 10, None), (2, 101, 101)))
        self.assertEqual(nears(2, (1, 1), 4), ((1, 2, None), (2, 5, 5), (4, 21, 21)))

    def test_both_guesses_come(self):
        luck = chance(2401)
        for base in (2, 10, 10 ** 6):
            seen = set()
            for unused in range(300):
                for s, x, guess in nears(base, some_row(luck, base, luck.randint(1, 9)), 9)[1:]:
                    seen.add(x - guess)
            self.assertEqual(seen, {0, 1})

    def test_refused(self):
        for base in BASES:
            for least in LEASTS:
                refused(self, NoDivisor, nears, base, (), least)

    def test_asked_again(self):
        row = (1, 2, 3)
        self.assertEqual(nears(10, row, 9), nears(10, row, 9))
        self.assertEqual(row, (1, 2, 3))


class ShowsNears(unittest.TestCase):
    def check(self, wanted, base, row, least, thing):
        self.assertIs(shows_nears(base, row, least, thing), wanted)
        self.assertIs(shows_nears(base, row, least, thing), wanted)

    def test_what_nears_tells(self):
        luck = chance(2402)
        for base in BASES:
            for row in rows_for_tests(luck, base):
                for least in LEASTS:
                    self.check(True, base, row, least, nears(base, row, least))

    def test_one_number_otherwise(self):
        luck = chance(2403)
        for base in (2, 10, 10 ** 6):
            for row in rows_for_tests(luck, base)[::2]:
                for least in (1, 3, 9):
                    right = nears(base, row, least)
                    for at, triple in enumerate(right):
                        for place in range(3 if at > 0 else 2):
                            for more in (1, -1, base, -base, 10 ** 60):
                                wrong = put_at(triple, place, triple[place] + more)
                                self.check(False, base, row, least, put_at(right, at, wrong))
                            self.check(False, base, row, least, put_at(right, at, put_at(triple, place, None)))
                            self.check(False, base, row, least, put_at(right, at, put_at(triple, place, -triple[place])))
                    for number in (0, right[0][1], -1):
                        self.check(False, base, row, least, put_at(right, 0, put_at(right[0], 2, number)))

    def test_a_guess_that_is_right_but_not_so_made(self):
        # x itself and one less are what a guess may be, but each time just one of them is.
        luck = chance(2404)
        for unused in range(100):
            row = some_row(luck, 10, luck.randint(1, 5))
            right = nears(10, row, 5)
            for at in (1, 2, 3):
                s, x, guess = right[at]
                for other in (x, x - 1):
                    self.check(other == guess, 10, row, 5, put_at(right, at, (s, x, other)))

    def test_too_few_or_too_many(self):
        for base in (2, 10, 10 ** 6):
            for row in ((1,), (base - 1,), (1, 1, 1)):
                for least in (1, 2, 3, 9):
                    right, longer = nears(base, row, least), nears(base, row, 2 * least)
                    self.check(False, base, row, least, longer)
                    self.check(False, base, row, 2 * least, right)
                    self.check(False, base, row, least, right[:-1])
                    self.check(False, base, row, least, right[1:])
                    self.check(False, base, row, least, right + right[-1:])
                    self.check(False, base, row, least, right[:1] + right)
                    self.check(False, base, row, least, right + ((),))
                    self.check(False, base, row, least, right + (None,))
                    self.check(False, base, row, least, ())
                    for at in range(len(right)):
                        self.check(False, base, row, least, right[:at] + right[at + 1:])
                        self.check(False, base, row, least, put_at(right, at, right[at][:2]))
                        self.check(False, base, row, least, put_at(right, at, right[at] + (None,)))
                        self.check(False, base, row, least, put_at(right, at, ()))

    def test_another_row_or_base(self):
        right = nears(10, (7, 3), 5)
        self.check(True, 10, (7, 3), 5, right)
        for base, row in ((10, (8, 3)), (10, (6, 3)), (10, (7,)), (10, (3, 7)), (11, (7, 3)), (10, (1, 7, 3))):
            self.check(False, base, row, 5, right)
        # Any least that leads to the same s.
        for least in (6, 7, 8):
            self.check(True, 10, (7, 3), least, right)
        for least in (1, 2, 3, 4, 9, 10 ** 60):
            self.check(False, 10, (7, 3), least, right)

    def test_nought(self):
        for base in (2, 10):
            for least in (1, 5):
                for thing in ((), ((1, 0, None),), ((1, base, None),), nears(base, (1,), least), None, ((),)):
                    self.check(False, base, (), least, thing)

    def test_truths_and_lists(self):
        # x is 1 nowhere, s at first; 2 ** 2 by 3 is 1.
        self.check(True, 2, (1,), 1, ((1, 4, None),))
        self.check(False, 2, (1,), 1, ((True, 4, None),))
        self.check(False, 2, (1,), 1, ((1, 4.0, None),))
        self.check(False, 2, (1,), 1, ((1.0, 4, None),))
        self.check(False, 2, (1,), 1, ((1, 4, False),))
        self.check(False, 2, (1,), 1, ((1, 4, 0),))
        self.check(False, 2, (1,), 1, ((1, 4),))
        right = nears(10, (7, 3), 5)
        self.check(False, 10, (7, 3), 5, list(right))
        for at in range(len(right)):
            self.check(False, 10, (7, 3), 5, put_at(right, at, list(right[at])))
            for place in range(3):
                self.check(False, 10, (7, 3), 5, put_at(right, at, put_at(right[at], place, True)))
                self.check(False, 10, (7, 3), 5, put_at(right, at, put_at(right[at], place, str(right[at][place]))))

    def test_anything(self):
        row = (7, 3)
        for least in (1, 5):
            right = nears(10, row, least)
            for thing in flat_things() + deep_things() + [0, 1, (1,), str(right), {0: right}, iter(right)]:
                self.check(False, 10, row, least, thing)
                self.check(False, 10, (), least, thing)
            for thing in no_numbers():
                for at, triple in enumerate(right):
                    self.check(False, 10, row, least, put_at(right, at, thing))
                    for place in range(3):
                        if at > 0 or place < 2 or thing is not None:
                            self.check(False, 10, row, least, put_at(right, at, put_at(triple, place, thing)))

    def test_changes_nothing(self):
        thing = [[1, 14, None]]
        self.check(False, 10, (7,), 1, thing)
        self.assertEqual(thing, [[1, 14, None]])


if __name__ == "__main__":
    unittest.main()
