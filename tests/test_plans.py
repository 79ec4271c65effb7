"""What [11] says of sizes that may be cut and of plans."""

import unittest

from partmill.plans import is_plan, may_cut
from tests.reckoned import may_be_cut, some_plan, some_ways
from tests.things import chance, deep_things, flat_things, no_numbers, put_at


class MayCut(unittest.TestCase):
    def test_each_size(self):
        for n in list(range(1, 130)) + [400, 401, 10 ** 6]:
            for p in range(-3, 12):
                if n == 10 ** 6 and p > 1:
                    continue
                self.assertIs(may_cut(n, p), may_be_cut(n, p), (n, p))

    def test_sizes_where_nothing_is_left(self):
        left_none = {
            2: [1], 3: [1, 2, 4], 4: [1, 2, 3, 5, 6, 9], 5: [1, 2, 3, 4, 6, 7, 8, 11, 12, 16],
        }
        for p, sizes in left_none.items():
            self.assertEqual([n for n in range(1, 200) if may_cut(n, p) is False], sizes)

    def test_just_there(self):
        for n, p, wanted in ((1, 2, False), (2, 2, True), (3, 2, True), (4, 3, False), (5, 3, True), (9, 4, False),
                             (10, 4, True), (16, 5, False), (17, 5, True), (5, 5, True), (4, 5, False)):
            self.assertIs(may_cut(n, p), wanted)

    def test_other_ps(self):
        for n in (1, 2, 5, 6, 7, 36, 60, 120):
            for p in (0, 1, 6, 7, n, -2, -1, 10 ** 30, -10 ** 30):
                if p not in (2, 3, 4, 5):
                    self.assertIs(may_cut(n, p), False)
            for p in no_numbers():
                self.assertIs(may_cut(n, p), False)

    def test_asked_again(self):
        self.assertIs(may_cut(10, 4), True)
        self.assertIs(may_cut(10, 4), True)


class IsPlan(unittest.TestCase):
    def test_plans_and_their_beginnings(self):
        luck = chance(64)
        for unused in range(5):
            plan = some_plan(luck, 64)
            for many in range(1, 65):
                self.assertIs(is_plan(plan[:many]), True)
            self.assertIs(is_plan(plan[:0]), False)

    def test_each_way_at_each_size(self):
        luck = chance(65)
        for n in range(1, 65):
            ahead = some_plan(luck, n - 1)
            for way in range(-2, 9):
                self.assertIs(is_plan(ahead + (way,)), way in some_ways(n), (n, way))

    def test_a_wrong_way_at_any_place(self):
        luck = chance(66)
        plan = some_plan(luck, 20)
        for at in range(20):
            for wrong in (0, 6, 7, -1, -2, 10 ** 30, True, False, None, "1", "2", [1], (1,), (), 1.0, 2.0):
                self.assertIs(is_plan(put_at(plan, at, wrong)), False)

    def test_known(self):
        self.assertIs(is_plan((1,)), True)
        self.assertIs(is_plan((1, 2)), True)
        self.assertIs(is_plan((1, 2, 3, 4, 5)), True)
        self.assertIs(is_plan((2,)), False)
        self.assertIs(is_plan((1, 3)), False)
        self.assertIs(is_plan((1, 1, 1, 3)), False)

    def test_anything(self):
        for thing in flat_things() + deep_things() + [(), 0, 1, [1], "1", "1.1", (True,), ((1,),), {1: 1}]:
            self.assertIs(is_plan(thing), False)
        for thing in no_numbers():
            for plan in ((thing,), (1, thing), (thing, 1), (1, 1, thing, 1)):
                self.assertIs(is_plan(plan), False)

    def test_changes_nothing(self):
        thing = (1, [2], {"a": [3]})
        self.assertIs(is_plan(thing), False)
        self.assertEqual(thing, (1, [2], {"a": [3]}))


if __name__ == "__main__":
    unittest.main()
