"""What [4] says of rows."""

import unittest

from partmill.errors import Below, MillError
from partmill.rows import cut, is_row, less, minus, moved, number_of, plus, row_of
from tests.things import all_whole, chance, deep_things, flat_things, no_numbers, put_at

BASES = (2, 3, 7, 10, 16, 255, 1000, 999999, 10 ** 6)


def plain_number(base, row):
    return sum(figure * base ** at for at, figure in enumerate(row))


def some_row(luck, base, length):
    if length == 0:
        return ()
    return tuple(luck.randrange(base) for unused in range(length - 1)) + (luck.randrange(1, base),)


def some_rows(base):
    luck = chance(base)
    lengths = [0, 1, 1, 2, 3, 5, 8, 40, 400]
    return [some_row(luck, base, length) for length in lengths] + [(1,), (base - 1,), (0, 1), (0, 0, 0, 1)]


class RowsAndNumbers(unittest.TestCase):
    def test_known_rows(self):
        self.assertEqual(row_of(10, 0), ())
        self.assertEqual(row_of(10, 7), (7,))
        self.assertEqual(row_of(10, 10), (0, 1))
        self.assertEqual(row_of(10, 2050), (0, 5, 0, 2))
        self.assertEqual(row_of(2, 6), (0, 1, 1))
        self.assertEqual(row_of(10 ** 6, 10 ** 6 - 1), (999999,))
        self.assertEqual(row_of(10 ** 6, 10 ** 6), (0, 1))

    def test_known_numbers(self):
        self.assertEqual(number_of(10, ()), 0)
        self.assertEqual(number_of(10, (7,)), 7)
        self.assertEqual(number_of(10, (0, 5, 0, 2)), 2050)
        self.assertEqual(number_of(2, (0, 1, 1)), 6)
        self.assertEqual(number_of(10 ** 6, (5, 0, 3)), 3 * 10 ** 12 + 5)

    def test_there_and_back(self):
        for base in BASES:
            for row in some_rows(base):
                with self.subTest(base=base, length=len(row)):
                    number = number_of(base, row)
                    self.assertEqual(number, plain_number(base, row))
                    self.assertIs(type(number), int)
                    self.assertEqual(row_of(base, number), row)
                    self.assertTrue(all_whole(row_of(base, number)))

    def test_all_small_numbers(self):
        for base in (2, 3, 10):
            for number in range(300):
                row = row_of(base, number)
                self.assertIs(is_row(base, row), True)
                self.assertEqual(number_of(base, row), number)


class IsRow(unittest.TestCase):
    def test_rows(self):
        for base in BASES:
            for row in some_rows(base):
                with self.subTest(base=base, length=len(row)):
                    self.assertIs(is_row(base, row), True)

    def test_last_figure_nought(self):
        for base in BASES:
            for row in ((0,), (1, 0), (0, 0), (0, 1, 0), (1,) * 399 + (0,)):
                self.assertIs(is_row(base, row), False)

    def test_figures_out_of_bounds(self):
        for base in BASES:
            for row in some_rows(base)[1:]:
                for at in {0, len(row) // 2, len(row) - 1}:
                    for wrong in (base, base + 1, -1, -base, 10 ** 40, -10 ** 40):
                        self.assertIs(is_row(base, put_at(row, at, wrong)), False)
                    self.assertIs(is_row(base, put_at(row, at, base - 1)), True)

    def test_truths_are_no_figures(self):
        for row in ((True,), (True, 1), (1, True), (False, 1), (0, False, 1)):
            self.assertIs(is_row(10, row), False)

    def test_other_kinds_of_figures(self):
        for thing in no_numbers():
            for row in ((thing,), (thing, 1), (1, thing), (1, thing, 1)):
                self.assertIs(is_row(10, row), False)

    def test_anything(self):
        for thing in flat_things() + [[3, 4], "34", 34, 0, 1, -1]:
            self.assertIs(is_row(10, thing), False)
        for thing in deep_things():
            self.assertIs(is_row(10, thing), False)


class Less(unittest.TestCase):
    def test_both_ways_about(self):
        for base in BASES:
            rows = some_rows(base)
            for one in rows:
                for other in rows:
                    wanted = plain_number(base, one) < plain_number(base, other)
                    self.assertIs(less(one, other), wanted)

    def test_known(self):
        self.assertIs(less((), ()), False)
        self.assertIs(less((), (1,)), True)
        self.assertIs(less((1,), ()), False)
        self.assertIs(less((9, 1), (0, 2)), True)
        self.assertIs(less((0, 2), (9, 1)), False)
        self.assertIs(less((9, 9), (0, 0, 1)), True)
        self.assertIs(less((0, 0, 1), (9, 9)), False)
        self.assertIs(less((4, 5, 6), (4, 5, 6)), False)
        self.assertIs(less((3, 5, 6), (4, 5, 6)), True)


class PlusAndMinus(unittest.TestCase):
    def test_sums(self):
        for base in BASES:
            rows = some_rows(base)
            for one in rows:
                for other in rows:
                    total = plus(base, one, other)
                    self.assertEqual(total, row_of(base, plain_number(base, one) + plain_number(base, other)))
                    self.assertTrue(all_whole(total))

    def test_differences(self):
        for base in BASES:
            rows = some_rows(base)
            for one in rows:
                for other in rows:
                    left = plain_number(base, one) - plain_number(base, other)
                    if left < 0:
                        with self.assertRaises(Below):
                            minus(base, one, other)
                    else:
                        self.assertEqual(minus(base, one, other), row_of(base, left))
                        self.assertTrue(all_whole(minus(base, one, other)))

    def test_carry_through_all_figures(self):
        for base in BASES:
            for length in (1, 2, 9, 400):
                all_nines = (base - 1,) * length
                next_power = (0,) * length + (1,)
                self.assertEqual(plus(base, all_nines, (1,)), next_power)
                self.assertEqual(plus(base, (1,), all_nines), next_power)
                self.assertEqual(minus(base, next_power, (1,)), all_nines)
                self.assertEqual(minus(base, next_power, all_nines), (1,))

    def test_nought(self):
        for row in ((), (1,), (0, 0, 4)):
            self.assertEqual(plus(10, row, ()), row)
            self.assertEqual(plus(10, (), row), row)
            self.assertEqual(minus(10, row, ()), row)

    def test_both_the_same(self):
        self.assertEqual(plus(10, (5, 5), (5, 5)), (0, 1, 1))
        self.assertEqual(minus(10, (5, 5), (5, 5)), ())
        self.assertEqual(minus(10, (0, 1), (0, 1)), ())

    def test_noughts_at_the_end_fall_away(self):
        self.assertEqual(minus(10, (3, 2, 1), (1, 2, 1)), (2,))
        self.assertEqual(minus(10, (0, 0, 1), (9, 9)), (1,))

    def test_refused_below_nought(self):
        for one, other in (((), (1,)), ((1,), (2,)), ((9, 1), (0, 2)), ((9, 9), (0, 0, 1))):
            with self.assertRaises(Below) as caught:
                minus(10, one, other)
            self.assertIs(type(caught.exception), Below)
            self.assertIsInstance(caught.exception, MillError)
            self.assertIsInstance(caught.exception, ValueError)


class MovedAndCut(unittest.TestCase):
    def test_moved(self):
        for base in BASES:
            for row in some_rows(base):
                for many in (0, 1, 2, 17):
                    told = moved(row, many)
                    self.assertEqual(told, row_of(base, plain_number(base, row) * base ** many))
                    self.assertTrue(all_whole(told))

    def test_moved_known(self):
        self.assertEqual(moved((), 0), ())
        self.assertEqual(moved((), 5), ())
        self.assertEqual(moved((1, 2), 0), (1, 2))
        self.assertEqual(moved((1, 2), 3), (0, 0, 0, 1, 2))

    def test_cut(self):
        for base in BASES:
            for row in some_rows(base):
                number = plain_number(base, row)
                for at in (0, 1, 2, len(row) // 2, len(row), len(row) + 1, len(row) + 50):
                    low, high = cut(row, at)
                    self.assertEqual(low, row_of(base, number % base ** at))
                    self.assertEqual(high, row_of(base, number // base ** at))

    def test_cut_known(self):
        self.assertEqual(cut((1, 2, 3), 0), ((), (1, 2, 3)))
        self.assertEqual(cut((1, 2, 3), 2), ((1, 2), (3,)))
        self.assertEqual(cut((1, 2, 3), 3), ((1, 2, 3), ()))
        self.assertEqual(cut((1, 2, 3), 4), ((1, 2, 3), ()))
        self.assertEqual(cut((1, 0, 0, 3), 3), ((1,), (3,)))
        self.assertEqual(cut((0, 0, 3), 2), ((), (3,)))
        self.assertEqual(cut((0, 0, 3), 1), ((), (0, 3)))
        self.assertEqual(cut((), 0), ((), ()))
        self.assertEqual(cut((), 4), ((), ()))
        self.assertIs(type(cut((1, 2, 3), 2)), tuple)


class AskedAgain(unittest.TestCase):
    def test_the_same_is_told(self):
        one, other = (9, 0, 9), (1, 0, 4)
        for asked in (
            lambda: row_of(10, 909), lambda: number_of(10, one), lambda: is_row(10, one), lambda: less(one, other),
            lambda: plus(10, one, other), lambda: minus(10, one, other), lambda: moved(one, 2), lambda: cut(one, 2),
        ):
            self.assertEqual(asked(), asked())
        self.assertEqual((one, other), ((9, 0, 9), (1, 0, 4)))

    def test_is_row_changes_nothing(self):
        thing = ([1, 2], {"a": [3]})
        self.assertIs(is_row(10, thing), False)
        self.assertEqual(thing, ([1, 2], {"a": [3]}))


if __name__ == "__main__":
    unittest.main()
