"""What [10] says of all products, and [3] (a), (b) of them."""

import unittest

from partmill.allways import all_products, all_squares
from partmill.looking import shows_product, shows_square
from partmill.strips import product
from partmill.works import counted, is_work, ran
from tests.things import all_whole, chance, some_strip, told_parts


class AllProducts(unittest.TestCase):
    def test_each_size(self):
        luck = chance(10)
        for n in range(1, 9):
            for m in range(1, 9):
                with self.subTest(n=n, m=m):
                    work = all_products(n, m)
                    self.assertIs(is_work(work), True)
                    self.assertEqual(work[:2], (n, m))
                    self.assertEqual(counted(work), (n * m, (n - 1) * (m - 1), 0, 0, 0))
                    one, other = some_strip(luck, n, 60), some_strip(luck, m, 60)
                    self.assertEqual(ran(work, one, other), product(one, other))
                    self.assertIs(shows_product(work), True)
                    self.assertIs(shows_square(work), False)

    def test_each_times_is_of_one_cell_each(self):
        for n, m in ((1, 1), (1, 4), (5, 1), (4, 6)):
            times = [tuple(sorted(step[1:])) for step in all_products(n, m)[2] if step[0] == "times"]
            self.assertEqual(sorted(times), [(i, n + j) for i in range(n) for j in range(m)])

    def test_great_sizes(self):
        luck = chance(24)
        for n, m in ((24, 24), (47, 1), (1, 47), (13, 31)):
            work = all_products(n, m)
            self.assertEqual(counted(work), (n * m, (n - 1) * (m - 1), 0, 0, 0))
            one, other = some_strip(luck, n, 60), some_strip(luck, m, 60)
            self.assertEqual(ran(work, one, other), product(one, other))
            self.assertIs(shows_product(work), True)

    def test_asked_again(self):
        for n, m in ((1, 1), (3, 2), (6, 6)):
            work = all_products(n, m)
            self.assertEqual(work, all_products(n, m))
            self.assertTrue(all_whole(told_parts(work)))


class AllSquares(unittest.TestCase):
    def counts(self, n):
        doubled = 0 if n == 1 else 2 * n - 3
        return (n * (n + 1) // 2, (n - 1) * (n - 2) // 2, 0, doubled, 0)

    def test_each_size(self):
        luck = chance(20)
        for n in list(range(1, 15)) + [48]:
            with self.subTest(n=n):
                work = all_squares(n)
                self.assertIs(is_work(work), True)
                self.assertEqual(work[:2], (n, 0))
                self.assertEqual(counted(work), self.counts(n))
                one = some_strip(luck, n, 60)
                self.assertEqual(ran(work, one, ()), product(one, one))
                self.assertIs(shows_square(work), True)
                self.assertIs(shows_product(work), False)

    def test_known_counts(self):
        self.assertEqual(counted(all_squares(1)), (1, 0, 0, 0, 0))
        self.assertEqual(counted(all_squares(2)), (3, 0, 0, 1, 0))
        self.assertEqual(counted(all_squares(3)), (6, 1, 0, 3, 0))
        self.assertEqual(counted(all_squares(4)), (10, 3, 0, 5, 0))

    def test_each_times_and_by(self):
        for n in (1, 2, 5, 8):
            steps = all_squares(n)[2]
            times = [tuple(sorted(step[1:])) for step in steps if step[0] == "times"]
            self.assertEqual(sorted(times), [(i, j) for i in range(n) for j in range(i, n)])
            self.assertEqual({step[2] for step in steps if step[0] == "by"} - {2}, set())

    def test_no_more_products_than_all_products(self):
        for n in range(1, 13):
            self.assertLessEqual(counted(all_squares(n))[0], counted(all_products(n, n))[0])

    def test_asked_again(self):
        for n in (1, 2, 7):
            work = all_squares(n)
            self.assertEqual(work, all_squares(n))
            self.assertTrue(all_whole(told_parts(work)))


if __name__ == "__main__":
    unittest.main()
