"""What [12] and [13] say of the works of plans, and [3] (a), (b) of them."""

import unittest

from partmill.allways import all_products, all_squares
from partmill.looking import shows_product, shows_square
from partmill.parting import square_of, through_squares, work_of
from partmill.strips import product
from partmill.works import counted, is_work, ran
from tests.reckoned import (
    Counting, greatest_ways, ones, product_count, some_plan, some_ways, square_count, through_count, with_top,
)
from tests.things import all_whole, chance, some_strip, told_parts

# For each way sizes of which the last part has as many cells as the others, fewer, just one.
SIZES = {
    1: (1, 2, 3, 6),
    2: (2, 3, 4, 5, 6, 9),
    3: (3, 5, 6, 7, 8, 9, 10),
    4: (4, 7, 8, 10, 11, 12, 13),
    5: (5, 9, 10, 13, 14, 15, 17, 21),
}


def strips_for(luck, many):
    """Strips of either sign, of noughts, of 60 figures, of one number alone."""
    great = 10 ** 60 - 1
    return [
        some_strip(luck, many), some_strip(luck, many, 60), (0,) * many, (great,) * many, (-great,) * many,
        (0,) * (many - 1) + (-7,), (5,) + (0,) * (many - 1),
    ]


def plans_with(luck, n, p):
    """Plans of which n has the way p: below nothing is cut, all is cut as often as may be, or by chance."""
    belows = (ones(n), greatest_ways(n), some_plan(luck, n), some_plan(luck, n))
    return [with_top(below, n, p) for below in belows]


class Plans(unittest.TestCase):
    def check_product(self, work, n, m, luck):
        self.assertIs(is_work(work), True)
        self.assertEqual(work[:2], (n, m))
        self.assertEqual(len(work[3]), n + m - 1)
        self.assertTrue(all_whole(told_parts(work)))
        self.assertIs(shows_product(work), True)
        self.assertIs(shows_square(work), False)
        for one, other in zip(strips_for(luck, n), reversed(strips_for(luck, m))):
            self.assertEqual(ran(work, one, other), product(one, other))
        one, other = some_strip(luck, n, 60), some_strip(luck, m, 60)
        self.assertEqual(ran(work, one, other), product(one, other))

    def check_square(self, work, n, luck):
        self.assertIs(is_work(work), True)
        self.assertEqual(work[:2], (n, 0))
        self.assertEqual(len(work[3]), 2 * n - 1)
        self.assertTrue(all_whole(told_parts(work)))
        self.assertIs(shows_square(work), True)
        self.assertIs(shows_product(work), False)
        for one in strips_for(luck, n):
            self.assertEqual(ran(work, one, ()), product(one, one))


class LikeSizes(Plans):
    def test_each_way_at_the_top(self):
        luck = chance(12)
        for p, sizes in SIZES.items():
            for n in sizes:
                self.assertIn(p, some_ways(n))
                for plan in plans_with(luck, n, p):
                    with self.subTest(plan=plan, n=n):
                        work = work_of(plan, n, n)
                        self.check_product(work, n, n, luck)
                        self.assertEqual(counted(work), product_count(plan, n, n))

    def test_known_counts(self):
        known = (
            ((1,), (1, 0, 0, 0, 0)),
            ((1, 2), (3, 2, 2, 0, 0)),
            ((1, 1, 2), (9, 6, 4, 0, 0)),
            ((1, 2, 2), (7, 8, 8, 0, 0)),
            ((1, 1, 3), (5, 11, 14, 5, 3)),
        )
        for plan, count in known:
            self.assertEqual(counted(work_of(plan, len(plan), len(plan))), count)

    def test_values_multiplied(self):
        # Each way takes 2 * p - 1 products where the parts have one cell each.
        for p in (2, 3, 4, 5):
            self.assertEqual(counted(work_of(with_top(ones(p), p, p), p, p))[0], 2 * p - 1)

    def test_all_products_where_the_way_is_one(self):
        for n in (1, 2, 5, 9):
            work = work_of(with_top(greatest_ways(n), n, 1), n, n)
            self.assertEqual(counted(work), counted(all_products(n, n)))

    def test_longer_plans_tell_the_same(self):
        luck = chance(13)
        for n in (1, 4, 7, 10):
            plan = some_plan(luck, 64)
            self.assertEqual(work_of(plan, n, n), work_of(plan[:n], n, n))
            self.assertEqual(square_of(plan, n), square_of(plan[:n], n))
            self.assertEqual(through_squares(plan, n), through_squares(plan[:n], n))

    def test_great_sizes(self):
        luck = chance(14)
        for n in (16, 20, 23, 24):
            plan = some_plan(luck, 24)
            work = work_of(plan, n, n)
            self.check_product(work, n, n, luck)
            self.assertEqual(counted(work), product_count(plan, n, n))

    def test_asked_again(self):
        luck = chance(15)
        plan = greatest_ways(12)
        self.assertEqual(work_of(plan, 12, 12), work_of(plan, 12, 12))
        self.assertEqual(work_of(plan, 12, 5), work_of(plan, 12, 5))
        self.assertEqual(square_of(plan, 12), square_of(plan, 12))
        self.assertEqual(through_squares(plan, 12), through_squares(plan, 12))
        self.assertEqual(plan, greatest_ways(12))
        work = work_of(plan, 5, 5)
        again = tuple(work)
        one, other = some_strip(luck, 5), some_strip(luck, 5)
        ran(work, one, other)
        self.assertEqual(work, again)


class UnlikeSizes(Plans):
    PAIRS = (
        (1, 2), (2, 3), (4, 5), (1, 7), (1, 23), (2, 9), (3, 9), (3, 10), (3, 11), (4, 11), (5, 12), (5, 13),
        (6, 21), (7, 24), (8, 13), (9, 12), (10, 15), (13, 14),
    )

    def test_either_strip_the_longer_one(self):
        luck = chance(130)
        for lesser, greater in self.PAIRS:
            for plan in (ones(lesser), greatest_ways(lesser), some_plan(luck, lesser)):
                for n, m in ((lesser, greater), (greater, lesser)):
                    with self.subTest(plan=plan, n=n, m=m):
                        work = work_of(plan, n, m)
                        self.check_product(work, n, m, luck)
                        self.assertEqual(counted(work), product_count(plan, n, m))

    def test_plans_longer_than_the_lesser_size(self):
        luck = chance(131)
        for n, m in ((3, 8), (8, 3), (5, 6), (1, 9), (20, 6)):
            plan = some_plan(luck, 30)
            self.assertEqual(work_of(plan, n, m), work_of(plan[:min(n, m)], n, m))

    def test_counts_out_of_smaller_works(self):
        luck = chance(132)
        for n, m in ((5, 3), (9, 3), (11, 4), (12, 5), (6, 1)):
            plan = some_plan(luck, m)
            whole = counted(work_of(plan, n, m))
            first = counted(work_of(plan, m, m))
            others = counted(work_of(plan, n - m, m))
            wanted = [one + other for one, other in zip(first, others)]
            wanted[1] += m - 1
            self.assertEqual(whole, tuple(wanted))
            self.assertEqual(counted(work_of(plan, m, n)), whole)

    def test_one_number(self):
        for many in (1, 2, 40, 400):
            self.assertEqual(counted(work_of((1,), many, 1)), (many, 0, 0, 0, 0))
            self.assertEqual(counted(work_of((1,), 1, many)), (many, 0, 0, 0, 0))

    def test_far_apart(self):
        luck = chance(133)
        plan = greatest_ways(5)
        one, other = some_strip(luck, 400), some_strip(luck, 5)
        self.assertEqual(ran(work_of(plan, 400, 5), one, other), product(one, other))
        self.assertEqual(ran(work_of(plan, 5, 400), other, one), product(one, other))


class Squares(Plans):
    def test_each_way_at_the_top(self):
        luck = chance(16)
        for p, sizes in SIZES.items():
            for n in sizes:
                for plan in plans_with(luck, n, p):
                    with self.subTest(plan=plan, n=n):
                        work = square_of(plan, n)
                        self.check_square(work, n, luck)
                        self.assertEqual(counted(work), square_count(plan, n))
                        self.assertLessEqual(counted(work)[0], counted(work_of(plan, n, n))[0])

    def test_known_counts(self):
        known = (
            ((1,), (1, 0, 0, 0, 0)),
            ((1, 2), (3, 1, 2, 0, 0)),
            ((1, 1), (3, 0, 0, 1, 0)),
            ((1, 1, 3), (5, 7, 12, 3, 3)),
        )
        for plan, count in known:
            self.assertEqual(counted(square_of(plan, len(plan))), count)

    def test_all_squares_where_the_way_is_one(self):
        for n in (1, 2, 5, 9):
            work = square_of(with_top(greatest_ways(n), n, 1), n)
            self.assertEqual(counted(work), counted(all_squares(n)))

    def test_the_values_are_made_once(self):
        # With one cell each a product and a square differ in the plus, minus, by of the second strip alone.
        spared = {2: (1, 0, 0), 3: (4, 2, 2), 4: (12, 3, 9), 5: (24, 4, 20)}
        for p, wanted in spared.items():
            plan = with_top(ones(p), p, p)
            both = counted(work_of(plan, p, p))
            once = counted(square_of(plan, p))
            self.assertEqual(tuple(both[at] - once[at] for at in (1, 2, 3)), wanted)
            self.assertEqual((both[0], both[4]), (once[0], once[4]))

    def test_great_size(self):
        luck = chance(17)
        plan = some_plan(luck, 48)
        work = square_of(plan, 48)
        self.check_square(work, 48, luck)
        self.assertEqual(counted(work), square_count(plan, 48))


class ThroughSquares(Plans):
    def test_each_way_at_the_top(self):
        luck = chance(18)
        for p, sizes in SIZES.items():
            for n in sizes:
                for plan in plans_with(luck, n, p)[1:3]:
                    with self.subTest(plan=plan, n=n):
                        work = through_squares(plan, n)
                        self.check_product(work, n, n, luck)
                        self.assertEqual(counted(work), through_count(plan, n))

    def test_counts_out_of_squares(self):
        luck = chance(19)
        for n in (1, 2, 3, 8, 17, 24):
            plan = some_plan(luck, n)
            square = counted(square_of(plan, n))
            wanted = [2 * many for many in square]
            wanted[1] += n
            wanted[2] += n + 2 * n - 1
            wanted[4] += 2 * n - 1
            work = through_squares(plan, n)
            self.assertEqual(counted(work), tuple(wanted))
            fours = [step for step in work[2] if step[0] == "part" and step[2] == 4]
            self.assertGreaterEqual(len(fours), 2 * n - 1)

    def test_known_counts(self):
        self.assertEqual(counted(through_squares((1,), 1)), (2, 1, 2, 0, 1))
        self.assertEqual(counted(through_squares((1, 2), 2)), (6, 4, 9, 0, 3))


class Reckoning(unittest.TestCase):
    """The counts that these tests reckon for themselves, held against known ones."""

    def test_by_hand(self):
        self.assertEqual(product_count((1, 1, 3), 3, 3), (5, 11, 14, 5, 3))
        self.assertEqual(product_count((1, 1, 2), 3, 3), (9, 6, 4, 0, 0))
        self.assertEqual(product_count((1, 2), 2, 5), (8, 6, 4, 0, 0))
        self.assertEqual(Counting("square", (1, 2)).of(2)["times"], 3)


if __name__ == "__main__":
    unittest.main()
