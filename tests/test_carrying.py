"""What [17] says of carried figures, and [3] (d) of them."""

import unittest

from partmill.carrying import carried, shows_carried
from partmill.errors import Below
from tests.things import (
    all_whole, chance, deep_things, figures_of, flat_things, no_numbers, number_told, put_at, refused, some_number,
    some_strip,
)

BASES = (2, 3, 10, 16, 1000, 10 ** 6)
GREAT = 10 ** 60 - 1


def carries_of(base, strip):
    """Behind each place what the numbers up to there come to by the base to the power of the next place."""
    told = []
    while len(told) < len(strip) or told[-1] != 0:
        at = len(told)
        told.append(number_told(base, strip[:at + 1]) // base ** (at + 1))
    return tuple(told)


def known_strips(base):
    """Strips whose numbers are not below nought."""
    return [
        (0,), (1,), (base - 1,), (base,), (base + 1,), (GREAT,), (0, 0, 0), (0,) * 200, (GREAT,) * 200,
        (base, -1), (2 * base, -1), (base * base, -1, 0), (5 * base, -5), (base ** 5, 0, 0, -1),
        (GREAT, -1), (-1, 1), (-base, 1), (-GREAT, GREAT), (-1, -1, 1), (0, 0, 7), (base - 1,) * 9,
        (-1, 0, 0, 0, 1), (1, 0, 0, 0, 0),
    ]


def strips(base):
    luck = chance(base)
    told = known_strips(base)
    for many in (1, 2, 3, 8, 40):
        for figures in (2, 8, 60):
            strip = some_strip(luck, many, figures)
            told.append(strip if number_told(base, strip) >= 0 else tuple(-number for number in strip))
    return told


class Carried(unittest.TestCase):
    def test_rows_and_carries(self):
        for base in BASES:
            for strip in strips(base):
                with self.subTest(base=base, strip=strip):
                    told = carried(base, strip)
                    self.assertTrue(all_whole(told))
                    row, carries = told
                    self.assertEqual(row, figures_of(base, number_told(base, strip)))
                    self.assertEqual(carries, carries_of(base, strip))
                    self.assertEqual(carries[-1], 0)
                    self.assertGreaterEqual(len(carries), len(strip))
                    self.assertTrue(len(row) == 0 or row[-1] != 0)

    def test_known(self):
        self.assertEqual(carried(10, (0,)), ((), (0,)))
        self.assertEqual(carried(10, (7,)), ((7,), (0,)))
        self.assertEqual(carried(10, (10,)), ((0, 1), (1, 0)))
        self.assertEqual(carried(10, (1234,)), ((4, 3, 2, 1), (123, 12, 1, 0)))
        self.assertEqual(carried(10, (0, 0, 0)), ((), (0, 0, 0)))
        self.assertEqual(carried(10, (100, -1)), ((0, 9), (10, 0)))
        self.assertEqual(carried(10, (10, -1)), ((), (1, 0)))
        self.assertEqual(carried(10, (-1, 1)), ((9,), (-1, 0)))
        self.assertEqual(carried(10, (3, 10, 8)), ((3, 0, 9), (0, 1, 0)))
        self.assertEqual(carried(2, (-3, 0, 5)), ((1, 0, 0, 0, 1), (-2, -1, 2, 1, 0)))
        self.assertEqual(carried(10 ** 6, (10 ** 6, 999999)), ((0, 0, 1), (1, 1, 0)))

    def test_below_nought(self):
        luck = chance(170)
        for base in BASES:
            told = [(-1,), (0, -1), (-base,), (-base - 1,), (-GREAT,), (base - 1, -1), (0, 0, 0, -1), (-1, 0, 0)]
            for power in (1, 2, 5, 30):
                top = base ** power
                told += [(-top,), (-top + 1,), (-top - 1,), (top - 1, -top)]
                told += [(top - 1,) + (0,) * (power - 1) + (-1,)]
            told += [(GREAT, -GREAT), (-1, GREAT, -GREAT)]
            for many in (1, 3, 40):
                strip = some_strip(luck, many, 60)
                told.append(strip[:-1] + (-abs(some_number(luck, 60)) - 10 ** 61,))
            for strip in told:
                with self.subTest(base=base, strip=strip):
                    self.assertLess(number_told(base, strip), 0)
                    refused(self, Below, carried, base, strip)

    def test_just_at_nought(self):
        for base in BASES:
            for strip in ((base, -1), (-base, 1), (base ** 9,) + (0,) * 8 + (-1,), (-GREAT * base, GREAT)):
                self.assertEqual(carried(base, strip)[0], ())
                refused(self, Below, carried, base, (strip[0] - 1,) + strip[1:])

    def test_asked_again(self):
        strip = (GREAT, -5, 0, 17)
        self.assertEqual(carried(10, strip), carried(10, strip))
        self.assertEqual(strip, (GREAT, -5, 0, 17))


class ShowsCarried(unittest.TestCase):
    def test_what_carried_tells(self):
        for base in BASES:
            for strip in strips(base):
                row, carries = carried(base, strip)
                self.assertIs(shows_carried(base, strip, row, carries), True)
                self.assertIs(shows_carried(base, strip, row, carries + (0,)), True)
                self.assertIs(shows_carried(base, strip, row, carries + (0, 0, 0)), True)

    def test_one_thing_otherwise(self):
        for base in BASES:
            for strip in strips(base):
                row, carries = carried(base, strip)
                for at in {0, len(carries) // 2, len(carries) - 1}:
                    for more in (1, -1, base, -base, 10 ** 60):
                        wrong = put_at(carries, at, carries[at] + more)
                        self.assertIs(shows_carried(base, strip, row, wrong), False)
                for at in {0, len(row) // 2, len(row) - 1} if row else ():
                    for figure in {0, 1, base - 1, (row[at] + 1) % base, base, -1, row[at] - base} - {row[at]}:
                        self.assertIs(shows_carried(base, strip, put_at(row, at, figure), carries), False)

    def test_too_few_or_too_many(self):
        for base in BASES:
            for strip in strips(base):
                row, carries = carried(base, strip)
                self.assertIs(shows_carried(base, strip, row, carries[:-1]), False)
                self.assertIs(shows_carried(base, strip, row, carries[1:]), False)
                self.assertIs(shows_carried(base, strip, row, ()), False)
                self.assertIs(shows_carried(base, strip, row, carries + (1,)), False)
                self.assertIs(shows_carried(base, strip, row, carries + (0, -1)), False)
                self.assertIs(shows_carried(base, strip, row, carries + (1, 0)), False)
                self.assertIs(shows_carried(base, strip, row + (0,), carries + (0,)), False)
                self.assertIs(shows_carried(base, strip, row + (1,), carries), False)
                self.assertIs(shows_carried(base, strip, row + (1,), carries + (0,)), False)
                self.assertIs(shows_carried(base, strip, row + (1,) * 300, carries), False)
                if row:
                    self.assertIs(shows_carried(base, strip, row[:-1], carries), False)

    def test_edges(self):
        self.assertIs(shows_carried(10, (7,), (7,), (0,)), True)
        # Beyond the carries' places the row may have nothing.
        self.assertIs(shows_carried(10, (7,), (7, 1), (0,)), False)
        self.assertIs(shows_carried(10, (17,), (7,), (1,)), False)
        self.assertIs(shows_carried(10, (17,), (7, 1), (1,)), False)
        self.assertIs(shows_carried(10, (17,), (7, 1), (1, 0)), True)
        self.assertIs(shows_carried(10, (0, 0), (), (0,)), False)
        self.assertIs(shows_carried(10, (0, 0), (), (0, 0)), True)
        self.assertIs(shows_carried(10, (7, 3), (7,), (0,)), False)
        # The number of (-3,) would be below nought: no carries come to 0.
        self.assertIs(shows_carried(10, (-3,), (7,), (-1,)), False)
        self.assertIs(shows_carried(10, (-3,), (7, 9), (-1, -1)), False)
        self.assertIs(shows_carried(10, (-3,), (), (0,)), False)

    def test_another_strip(self):
        row, carries = carried(10, (12, -1, 5))
        self.assertIs(shows_carried(10, (12, -1, 5), row, carries), True)
        self.assertIs(shows_carried(10, (12, -1, 5, 0), row, carries), False)
        self.assertIs(shows_carried(10, (12, -1, 5, 0), row, carries + (0,)), True)
        self.assertIs(shows_carried(10, (2, 0, 5), row, carries), False)
        self.assertIs(shows_carried(11, (12, -1, 5), row, carries), False)

    def test_truths(self):
        self.assertIs(shows_carried(10, (1,), (1,), (0,)), True)
        self.assertIs(shows_carried(10, (1,), (True,), (0,)), False)
        self.assertIs(shows_carried(10, (1,), (1,), (False,)), False)
        self.assertIs(shows_carried(10, (10,), (0, 1), (True, 0)), False)
        self.assertIs(shows_carried(10, (10,), (False, 1), (1, 0)), False)

    def test_anything(self):
        strip = (12, 5)
        row, carries = carried(10, strip)
        things = flat_things() + deep_things() + [0, 1, list(row), list(carries), str(row), {0: 0}, range(2)]
        for thing in things:
            self.assertIs(shows_carried(10, strip, thing, carries), False)
            self.assertIs(shows_carried(10, strip, row, thing), False)
            self.assertIs(shows_carried(10, strip, thing, thing), False)
        for thing in no_numbers():
            for at in (0, 1):
                self.assertIs(shows_carried(10, strip, put_at(row, at, thing), carries), False)
                self.assertIs(shows_carried(10, strip, row, put_at(carries, at, thing)), False)
            self.assertIs(shows_carried(10, (0,), (), (thing,)), False)

    def test_changes_nothing(self):
        row, carries = [2, 6], [1, [0]]
        self.assertIs(shows_carried(10, (12, 5), row, carries), False)
        self.assertEqual((row, carries), ([2, 6], [1, [0]]))


if __name__ == "__main__":
    unittest.main()
