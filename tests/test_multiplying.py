"""What [18] says of products of rows, and [3] (d) of them."""

import unittest

from partmill.bests import best
from partmill.multiplying import multiplied, squared, through
from partmill.rows import number_of, row_of
from tests.reckoned import greatest_ways, ones, some_plan, some_ways, with_top
from tests.things import all_whole, chance, some_row

BASES = (2, 3, 10, 1000, 10 ** 6)


def greatest_row(base, many):
    return (base - 1,) * many


def least_row(many):
    return (0,) * (many - 1) + (1,)


def product_row(base, one, other):
    return row_of(base, number_of(base, one) * number_of(base, other))


class Rows(unittest.TestCase):
    def check_both_orders(self, asked, base, plan, one, other):
        wanted = product_row(base, one, other)
        told = asked(base, plan, one, other)
        self.assertEqual(told, wanted)
        self.assertTrue(all_whole(told))
        self.assertEqual(asked(base, plan, other, one), wanted)

    def check_product(self, base, plan, one, other):
        self.check_both_orders(multiplied, base, plan, one, other)

    def check_through(self, base, plan, one, other):
        self.check_both_orders(through, base, plan, one, other)

    def check_square(self, base, plan, one):
        told = squared(base, plan, one)
        self.assertEqual(told, product_row(base, one, one))
        self.assertTrue(all_whole(told))


class Products(Rows):
    def test_each_way(self):
        luck = chance(180)
        for n in (1, 2, 3, 4, 5, 7, 9, 10, 13, 15, 21):
            for p in some_ways(n):
                plan = with_top(some_plan(luck, n), n, p)
                for base in BASES:
                    with self.subTest(plan=plan, base=base):
                        one, other = some_row(luck, base, n), some_row(luck, base, n)
                        self.check_product(base, plan, one, other)
                        self.check_through(base, plan, one, other)
                        self.check_square(base, plan, one)

    def test_unlike_lengths(self):
        luck = chance(181)
        for lesser, greater in ((1, 2), (1, 30), (2, 5), (3, 10), (5, 6), (8, 21), (12, 17)):
            for base in BASES:
                one, other = some_row(luck, base, lesser), some_row(luck, base, greater)
                # Products need a plan for the shorter row, products through squares one for the longer row.
                self.check_product(base, some_plan(luck, lesser), one, other)
                self.check_product(base, greatest_ways(64), one, other)
                self.check_through(base, some_plan(luck, greater), one, other)
                self.check_through(base, greatest_ways(64), one, other)

    def test_greatest_and_least_figures(self):
        for base in BASES:
            for n in (1, 2, 6, 15):
                for plan in (ones(15), greatest_ways(15)):
                    great, least = greatest_row(base, n), least_row(n)
                    self.check_square(base, plan, great)
                    self.check_square(base, plan, least)
                    for one, other in ((great, great), (great, least), (least, least), (great, (1,))):
                        self.check_product(base, plan, one, other)
                        self.check_through(base, plan, one, other)

    def test_nought(self):
        luck = chance(182)
        for base in BASES:
            for plan in ((1,), (1, 2), greatest_ways(5), greatest_ways(64)):
                for many in (0, 1, 7, 400):
                    row = some_row(luck, base, many)
                    self.assertEqual(multiplied(base, plan, (), row), ())
                    self.assertEqual(multiplied(base, plan, row, ()), ())
                    self.assertEqual(through(base, plan, (), row), ())
                    self.assertEqual(through(base, plan, row, ()), ())
                self.assertEqual(squared(base, plan, ()), ())

    def test_known(self):
        self.assertEqual(multiplied(10, (1, 2), (2, 1), (2, 1)), (4, 4, 1))
        self.assertEqual(squared(10, (1, 2), (9, 9)), (1, 0, 8, 9))
        self.assertEqual(through(10, (1, 2), (9, 9), (9,)), (1, 9, 8))
        self.assertEqual(multiplied(10 ** 6, (1,), (999999,), (999999,)), (1, 999998))

    def test_great_rows(self):
        luck = chance(183)
        for base in (2, 10 ** 6):
            one, other = some_row(luck, base, 400), some_row(luck, base, 64)
            plan = best("product", (10, 1, 1, 1, 2), 64)[0]
            self.check_product(base, plan, one, other)
            self.check_product(base, (1,), one, other[:1] if other[0] else (1,))
        plan = some_plan(luck, 150)
        one, other = some_row(luck, 10, 150), some_row(luck, 10, 149)
        self.check_through(10, plan, one, other)
        self.check_square(10, plan, one)

    def test_one_product_by_all_plans(self):
        luck = chance(184)
        one, other = some_row(luck, 10, 6), some_row(luck, 10, 6)
        told = set()
        for unused in range(20):
            plan = some_plan(luck, 6)
            told.add(multiplied(10, plan, one, other))
            told.add(through(10, plan, one, other))
        self.assertEqual(told, {product_row(10, one, other)})

    def test_asked_again(self):
        one, other, plan = (1, 2, 3), (4, 5), (1, 2, 3)
        self.assertEqual(multiplied(10, plan, one, other), multiplied(10, plan, one, other))
        self.assertEqual(squared(10, plan, one), squared(10, plan, one))
        self.assertEqual(through(10, plan, one, other), through(10, plan, one, other))
        self.assertEqual((one, other, plan), ((1, 2, 3), (4, 5), (1, 2, 3)))


if __name__ == "__main__":
    unittest.main()
