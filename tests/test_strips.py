"""What [5] says of strips."""

import unittest

from partmill.strips import product
from tests.things import all_whole, chance, some_strip


def plain_product(one, other):
    sums = [0] * (len(one) + len(other) - 1)
    for i, left in enumerate(one):
        for j, right in enumerate(other):
            sums[i + j] += left * right
    return tuple(sums)


class Product(unittest.TestCase):
    def test_known(self):
        self.assertEqual(product((3,), (5,)), (15,))
        self.assertEqual(product((3,), (-5, 0, 2)), (-15, 0, 6))
        self.assertEqual(product((1, 2), (3, 4)), (3, 10, 8))
        self.assertEqual(product((1, 2), (3, 4, 5)), (3, 10, 13, 10))
        self.assertEqual(product((1, -1), (1, 1)), (1, 0, -1))
        self.assertEqual(product((0,), (0,)), (0,))
        self.assertEqual(product((0, 0, 0), (7, 8)), (0, 0, 0, 0))

    def test_lengths(self):
        luck = chance(5)
        for n in (1, 2, 3, 7, 20):
            for m in (1, 2, 5, 8, 33):
                one, other = some_strip(luck, n), some_strip(luck, m)
                told = product(one, other)
                self.assertEqual(len(told), n + m - 1)
                self.assertEqual(told, plain_product(one, other))
                self.assertEqual(told, product(other, one))
                self.assertTrue(all_whole(told))

    def test_numbers_of_sixty_figures(self):
        luck = chance(60)
        one, other = some_strip(luck, 200, 60), some_strip(luck, 200, 60)
        self.assertEqual(product(one, other), plain_product(one, other))
        great = 10 ** 60 - 1
        self.assertEqual(product((great,), (-great,)), (-great * great,))
        self.assertEqual(product((great, -great), (great, great)), (great * great, 0, -great * great))

    def test_asked_again(self):
        one, other = (1, -2, 3), (4, 0)
        self.assertEqual(product(one, other), product(one, other))
        self.assertEqual((one, other), ((1, -2, 3), (4, 0)))


if __name__ == "__main__":
    unittest.main()
