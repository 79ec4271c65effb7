"""What [14] says of the counts of the works of plans, and [3] (b) of them."""

import unittest

from partmill.costs import cost_of, square_cost, through_cost
from partmill.parting import square_of, through_squares, work_of
from partmill.works import counted
from tests.reckoned import (
    greatest_ways, ones, product_count, some_plan, some_ways, square_count, through_count, with_top,
)
from tests.things import all_whole, chance


class HeldAgainstWorks(unittest.TestCase):
    def test_like_sizes(self):
        luck = chance(140)
        for plan in (ones(40), greatest_ways(40), some_plan(luck, 40), some_plan(luck, 40)):
            for n in range(1, 41):
                with self.subTest(plan=plan, n=n):
                    self.assertEqual(cost_of(plan, n, n), counted(work_of(plan, n, n)))
                    self.assertEqual(square_cost(plan, n), counted(square_of(plan, n)))
                    self.assertEqual(through_cost(plan, n), counted(through_squares(plan, n)))

    def test_each_way_of_each_size(self):
        luck = chance(141)
        for n in range(1, 31):
            for p in some_ways(n):
                plan = with_top(some_plan(luck, n), n, p)
                with self.subTest(plan=plan, n=n):
                    self.assertEqual(cost_of(plan, n, n), counted(work_of(plan, n, n)))
                    self.assertEqual(square_cost(plan, n), counted(square_of(plan, n)))

    def test_unlike_sizes(self):
        luck = chance(142)
        for n in range(1, 41, 3):
            for m in (1, 2, 3, 5, 8, 13, 21, 34, 39, 40):
                plan = some_plan(luck, min(n, m))
                with self.subTest(plan=plan, n=n, m=m):
                    self.assertEqual(cost_of(plan, n, m), counted(work_of(plan, n, m)))
                    self.assertEqual(cost_of(plan, m, n), counted(work_of(plan, m, n)))

    def test_known(self):
        self.assertEqual(cost_of((1,), 1, 1), (1, 0, 0, 0, 0))
        self.assertEqual(cost_of((1, 2), 2, 2), (3, 2, 2, 0, 0))
        self.assertEqual(cost_of((1, 1, 3), 3, 3), (5, 11, 14, 5, 3))
        self.assertEqual(cost_of((1, 2), 2, 5), (8, 6, 4, 0, 0))
        self.assertEqual(square_cost((1,), 1), (1, 0, 0, 0, 0))
        self.assertEqual(square_cost((1, 1, 3), 3), (5, 7, 12, 3, 3))
        self.assertEqual(through_cost((1,), 1), (2, 1, 2, 0, 1))


class GreatSizes(unittest.TestCase):
    def test_like_sizes(self):
        luck = chance(143)
        for plan in (ones(400), greatest_ways(400), some_plan(luck, 400)):
            for n in (41, 64, 100, 257, 399, 400):
                self.assertEqual(cost_of(plan, n, n), product_count(plan, n, n))
                self.assertEqual(square_cost(plan, n), square_count(plan, n))
                self.assertEqual(through_cost(plan, n), through_count(plan, n))

    def test_unlike_sizes(self):
        luck = chance(144)
        plan = some_plan(luck, 399)
        for n, m in ((400, 1), (400, 2), (400, 64), (399, 64), (400, 399), (377, 233), (400, 200), (250, 100)):
            for one, other in ((n, m), (m, n)):
                self.assertEqual(cost_of(plan, one, other), product_count(plan, one, other))
                self.assertEqual(cost_of(plan[:m], one, other), product_count(plan, one, other))

    def test_many_asked(self):
        plan = greatest_ways(64)
        told = [cost_of(plan, n, m) for n in (64, 200, 400) for m in range(1, 65)]
        self.assertEqual(len(set(told)), len(told))

    def test_all_ways_of_one(self):
        self.assertEqual(cost_of(ones(400), 400, 400), (160000, 159201, 0, 0, 0))
        self.assertEqual(square_cost(ones(400), 400), (80200, 79401, 0, 797, 0))
        self.assertEqual(cost_of((1,), 400, 1), (400, 0, 0, 0, 0))


class Told(unittest.TestCase):
    def test_tuples_of_whole_numbers(self):
        plan = greatest_ways(20)
        for told in (cost_of(plan, 20, 20), cost_of(plan, 7, 20), square_cost(plan, 20), through_cost(plan, 20)):
            self.assertEqual(len(told), 5)
            self.assertTrue(all_whole(told))

    def test_asked_again(self):
        plan = greatest_ways(20)
        self.assertEqual(cost_of(plan, 20, 13), cost_of(plan, 20, 13))
        self.assertEqual(square_cost(plan, 20), square_cost(plan, 20))
        self.assertEqual(through_cost(plan, 20), through_cost(plan, 20))
        self.assertEqual(plan, greatest_ways(20))

    def test_squares_have_no_more_products(self):
        luck = chance(145)
        for plan in (ones(64), greatest_ways(64), some_plan(luck, 64)):
            for n in range(1, 65):
                self.assertLessEqual(square_cost(plan, n)[0], cost_of(plan, n, n)[0])


if __name__ == "__main__":
    unittest.main()
