"""What [28] says of other bases and halves, and [3] (h) of them."""

import unittest

from partmill.leading import halves, led, shows_halves
from partmill.rows import is_row
from tests.things import (
    all_whole, chance, deep_things, figures_of, flat_things, no_numbers, number_told, put_at, some_row,
)

BASES = (2, 3, 10, 16, 1000, 10 ** 6)


def without_noughts(figures):
    while figures and figures[-1] == 0:
        figures = figures[:-1]
    return figures


def reckoned_halves(base, goal, row):
    told = figures_of(goal, number_told(base, row))
    if len(row) < 2:
        return (told, ())
    at = len(row) // 2 + len(row) % 2
    return (told, (reckoned_halves(base, goal, without_noughts(row[:at])), reckoned_halves(base, goal, row[at:])))


def rows_for_tests(luck, base):
    """Rows of none, one, two, three and many figures, with noughts among them."""
    told = [(), (1,), (base - 1,), (0, 1), (1, 1), (0, 0, 1), (0, 0, 0, 1), (0,) * 16 + (1,), (1,) + (0,) * 16 + (1,)]
    return told + [some_row(luck, base, many) for many in (1, 2, 3, 4, 5, 7, 8, 9, 31, 60)] + [(base - 1,) * 60]


def places(tree, path=()):
    """Where the nodes of a tree are: the ways to them."""
    told = [path]
    for at, below in enumerate(tree[1]):
        told += places(below, path + (at,))
    return told


def node_at(tree, path):
    for at in path:
        tree = tree[1][at]
    return tree


def with_node(tree, path, node):
    """The tree with another thing in the place of a node."""
    if not path:
        return node
    row, below = tree
    return (row, put_at(below, path[0], with_node(below[path[0]], path[1:], node)))


class Led(unittest.TestCase):
    def test_each_to_each(self):
        luck = chance(2800)
        for base in BASES:
            for goal in BASES + (7, 65537, 999983):
                for row in rows_for_tests(luck, base):
                    with self.subTest(base=base, goal=goal, row=row):
                        told = led(base, goal, row)
                        self.assertEqual(told, figures_of(goal, number_told(base, row)))
                        self.assertTrue(all_whole(told))
                        self.assertTrue(is_row(goal, told))
                        self.assertEqual(led(goal, base, told), row)

    def test_greatest_rows(self):
        luck = chance(2801)
        for base, goal in ((10 ** 6, 2), (10 ** 6, 999983), (2, 10 ** 6), (10, 10)):
            row = some_row(luck, base, 400)
            told = led(base, goal, row)
            self.assertEqual(told, figures_of(goal, number_told(base, row)))
            self.assertEqual(led(goal, base, told), row)

    def test_the_same_base(self):
        luck = chance(2802)
        for base in BASES:
            for row in rows_for_tests(luck, base):
                self.assertEqual(led(base, base, row), row)

    def test_known(self):
        self.assertEqual(led(10, 16, (5, 5, 2)), (15, 15))
        self.assertEqual(led(10, 2, (6,)), (0, 1, 1))
        self.assertEqual(led(2, 10, (0, 1, 1)), (6,))
        self.assertEqual(led(10, 10 ** 6, (0, 0, 0, 0, 0, 0, 1)), (0, 1))
        self.assertEqual(led(10 ** 6, 10, (0, 1)), (0, 0, 0, 0, 0, 0, 1))
        self.assertEqual(led(3, 5, ()), ())


class Halves(unittest.TestCase):
    def test_trees(self):
        luck = chance(2803)
        for base in BASES:
            for goal in BASES:
                for row in rows_for_tests(luck, base):
                    told = halves(base, goal, row)
                    self.assertEqual(told, reckoned_halves(base, goal, row))
                    self.assertTrue(all_whole(told))
                    self.assertEqual(told[0], led(base, goal, row))
                    self.assertEqual(halves(base, goal, row), told)
                    self.assertIs(shows_halves(base, goal, row, told), True)
                    self.assertEqual(led(goal, base, told[0]), row)

    def test_greatest_rows(self):
        luck = chance(2804)
        for base, goal in ((10 ** 6, 2), (2, 10 ** 6), (10, 16)):
            row = some_row(luck, base, 400)
            told = halves(base, goal, row)
            self.assertEqual(told, reckoned_halves(base, goal, row))
            self.assertIs(shows_halves(base, goal, row, told), True)

    def test_known(self):
        self.assertEqual(halves(10, 16, ()), ((), ()))
        self.assertEqual(halves(10, 2, (6,)), ((0, 1, 1), ()))
        self.assertEqual(halves(10, 16, (8, 1)), ((2, 1), (((8,), ()), ((1,), ()))))
        # Three figures are cut behind the second one.
        self.assertEqual(
            halves(10, 16, (5, 5, 2)), ((15, 15), (((7, 3), (((5,), ()), ((5,), ()))), ((2,), ()))),
        )
        # Noughts at the low half's end are not its figures.
        self.assertEqual(halves(10, 16, (0, 1)), ((10,), (((), ()), ((1,), ()))))
        self.assertEqual(halves(10, 16, (0, 0, 1)), ((4, 6), (((), ()), ((1,), ()))))
        self.assertEqual(halves(10, 16, (3, 0, 1)), ((7, 6), (((3,), ()), ((1,), ()))))


class ShowsHalves(unittest.TestCase):
    def check(self, wanted, base, goal, row, thing):
        self.assertIs(shows_halves(base, goal, row, thing), wanted)
        self.assertIs(shows_halves(base, goal, row, thing), wanted)

    def wrong_nodes(self, goal, node):
        row, below = node
        more = figures_of(goal, number_told(goal, row) + 1)
        told = [
            (more, below), (row + (1,), below), (row + (0,), below), (list(row), below), (row, list(below)),
            (row, below, ()), (row,), (), row, list(node), (row, below + (((), ()),)), (row, (node,)), (None, below),
            (row, None), (row, 0), (0, below), (row + (True,), below), (row, below + (None,)),
        ]
        if row:
            told += [
                (row[:-1], below), (row[1:], below), ((), below), (put_at(row, 0, row[0] + goal), below),
                (put_at(row, 0, row[0] - goal), below), (put_at(row, 0, None), below), (row * 2, below), (below, row),
                (put_at(row, len(row) - 1, 0), below), (row[::-1] + (1,), below),
            ]
        if below:
            told += [(row, ()), (row, below[:1]), (row, below[1:]), below[0], below[1], (row, below + below[:1])]
            if below[0] != below[1]:
                told.append((row, below[::-1]))
        else:
            told += [(row, (node, ((), ()))), (row, (((), ()), ((), ()))), (row, (((), ()), node))]
        return told

    def test_one_thing_otherwise(self):
        luck = chance(2805)
        for base, goal in ((2, 10), (10, 2), (10, 16), (1000, 3), (10, 10), (10 ** 6, 1000)):
            for many in (0, 1, 2, 3, 4, 5, 9, 17):
                row = some_row(luck, base, many)
                right = halves(base, goal, row)
                self.check(True, base, goal, row, right)
                for path in places(right):
                    for wrong in self.wrong_nodes(goal, node_at(right, path)):
                        thing = with_node(right, path, wrong)
                        self.assertNotEqual(thing, right)
                        self.check(False, base, goal, row, thing)

    def test_cut_otherwise(self):
        # Both halves led and put together rightly, but cut ahead of the middle figure.
        row = (5, 4, 3)
        low, high = ((5,), ()), halves(10, 16, (4, 3))
        self.check(False, 10, 16, row, (led(10, 16, row), (low, high)))
        self.check(True, 10, 16, row, (led(10, 16, row), (halves(10, 16, (5, 4)), ((3,), ()))))
        # One figure more cut than there are.
        self.check(False, 10, 16, (5,), ((5,), (((5,), ()), ((), ()))))
        self.check(False, 10, 16, (), ((), (((), ()), ((), ()))))

    def test_wrong_all_the_way_up(self):
        # The leaves are another row's, and each node is rightly put together of them.
        for row, other in (((1, 2, 3, 4), (1, 2, 3, 5)), ((1, 2), (2, 2)), ((7,), (8,)), ((), (1,)), ((0, 1), (1, 1))):
            self.check(False, 10, 16, row, halves(10, 16, other))
            self.check(False, 10, 16, other, halves(10, 16, row))
            self.check(True, 10, 16, other, halves(10, 16, other))

    def test_another_base(self):
        row = (1, 0, 1, 1)
        right = halves(10, 16, row)
        self.check(False, 11, 16, row, right)
        self.check(False, 10, 17, row, right)
        self.check(False, 16, 10, row, right)
        self.check(False, 10, 16, row + (1,), right)

    def test_truths(self):
        self.check(True, 10, 16, (1,), ((1,), ()))
        self.check(False, 10, 16, (1,), ((True,), ()))
        right = halves(10, 2, (1, 1))
        self.assertEqual(right, ((1, 1, 0, 1), (((1,), ()), ((1,), ()))))
        self.check(False, 10, 2, (1, 1), ((1, True, 0, 1), right[1]))
        self.check(False, 10, 2, (1, 1), ((1, 1, False, 1), right[1]))
        self.check(False, 10, 2, (1, 1), (right[0], (((True,), ()), ((1,), ()))))
        self.check(False, 10, 2, (1, 1), (right[0], (((1,), ()), ((1.0,), ()))))

    def test_anything(self):
        for row in ((), (7,), (1, 1), (1, 2, 3, 4, 5)):
            right = halves(10, 16, row)
            for thing in flat_things() + deep_things() + [0, 1, (), (1,), (right,), list(right), str(right), {0: right}]:
                self.check(False, 10, 16, row, thing)
                for path in places(right):
                    self.check(False, 10, 16, row, with_node(right, path, thing))
            for thing in no_numbers():
                for path in places(right):
                    told, below = node_at(right, path)
                    if told:
                        self.check(False, 10, 16, row, with_node(right, path, (put_at(told, 0, thing), below)))
                    if not isinstance(thing, tuple):
                        self.check(False, 10, 16, row, with_node(right, path, (thing, below)))
                        self.check(False, 10, 16, row, with_node(right, path, (told, thing)))

    def test_changes_nothing(self):
        thing = [[2, 1], [[[8], []], [[1], []]]]
        self.check(False, 10, 16, (8, 1), thing)
        self.assertEqual(thing, [[2, 1], [[[8], []], [[1], []]]])


if __name__ == "__main__":
    unittest.main()
