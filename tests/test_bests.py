"""What [15] and [16] say of the best plans and of the looker of tables, and [3] (c) of both."""

import itertools
import unittest

from partmill.bestlooks import shows_best
from partmill.bests import best, way_cost
from partmill.costs import cost_of, square_cost
from tests.reckoned import Counting, as_count, ones, product_count, some_plan, some_ways, square_count
from tests.things import all_whole, chance, deep_things, flat_things, no_numbers, put_at

KINDS = ("product", "square")
GREATEST = 10 ** 6
PRICES = (
    (0, 0, 0, 0, 0), (1, 0, 0, 0, 0), (0, 1, 0, 0, 0), (0, 0, 1, 0, 0), (0, 0, 0, 1, 0), (0, 0, 0, 0, 1),
    (1, 1, 1, 1, 1), (GREATEST,) * 5, (GREATEST, 0, 0, 0, 0), (GREATEST, 1, 1, 1, 1), (10, 1, 1, 1, 2),
    (30, 1, 1, 2, 7), (100, 3, 2, 0, 0), (0, 5, 4, 3, 2),
)


def told_count(kind, plan, n):
    return cost_of(plan, n, n) if kind == "product" else square_cost(plan, n)


def reckoned_count(kind, plan, n):
    return product_count(plan, n, n) if kind == "product" else square_count(plan, n)


def price(prices, count):
    return sum(one * other for one, other in zip(prices, count))


def plain_best(kind, prices, most):
    """The best plan found by whole counts of plans that end in each way."""
    plan, costs = (), ()
    for n in range(1, most + 1):
        found = [price(prices, reckoned_count(kind, plan + (p,), n)) for p in some_ways(n)]
        costs += (min(found),)
        plan += (some_ways(n)[found.index(min(found))],)
    return plan, costs


def consistent_costs(kind, prices, plan):
    """What a plan's sizes cost, cheap or dear."""
    counting = Counting(kind, plan)
    return tuple(price(prices, as_count(counting.of(n))) for n in range(1, len(plan) + 1))


class Best(unittest.TestCase):
    def test_each_price(self):
        for kind in KINDS:
            for prices in PRICES:
                with self.subTest(kind=kind, prices=prices):
                    self.assertEqual(best(kind, prices, 30), plain_best(kind, prices, 30))

    def test_lengths(self):
        for kind in KINDS:
            for prices in PRICES:
                plan, costs = best(kind, prices, 64)
                self.assertEqual((len(plan), len(costs)), (64, 64))
                self.assertTrue(all_whole((plan, costs)))
                for most in (1, 2, 63):
                    self.assertEqual(best(kind, prices, most), (plan[:most], costs[:most]))

    def test_costs_are_those_of_the_plan(self):
        for kind in KINDS:
            for prices in PRICES:
                plan, costs = best(kind, prices, 64)
                for n in (1, 2, 3, 5, 11, 32, 47, 63, 64):
                    self.assertEqual(costs[n - 1], price(prices, told_count(kind, plan, n)))
                self.assertEqual(costs, consistent_costs(kind, prices, plan))

    def test_known(self):
        self.assertEqual(best("product", (0, 0, 0, 0, 0), 64), (ones(64), (0,) * 64))
        self.assertEqual(best("square", (0, 0, 0, 0, 0), 64), (ones(64), (0,) * 64))
        self.assertEqual(best("product", (7, 5, 3, 2, 1), 1), ((1,), (7,)))
        self.assertEqual(best("square", (7, 5, 3, 2, 1), 1), ((1,), (7,)))
        self.assertEqual(best("product", (1, 0, 0, 0, 0), 6), ((1, 2, 3, 4, 5, 2), (1, 3, 5, 7, 9, 15)))
        self.assertEqual(best("square", (1, 0, 0, 0, 0), 3), ((1, 1, 3), (1, 3, 5)))
        # A work of all products has no minus, by and part at all.
        for prices in ((0, 0, 1, 0, 0), (0, 0, 0, 1, 0), (0, 0, 0, 0, 1)):
            self.assertEqual(best("product", prices, 40), (ones(40), (0,) * 40))
        # At 2 two parts cost 3 times, 2 plus, 2 minus, all products 4 times, 1 plus.
        self.assertEqual(best("product", (3, 1, 1, 1, 1), 2), ((1, 1), (3, 13)))
        self.assertEqual(best("product", (4, 1, 1, 1, 1), 2), ((1, 2), (4, 16)))

    def test_no_plan_costs_less(self):
        plans = list(itertools.product(*[some_ways(n) for n in range(1, 8)]))
        for kind in KINDS:
            for prices in PRICES:
                told, costs = best(kind, prices, 7)
                self.assertIn(told, plans)
                for plan in plans[::3]:
                    for n in (4, 7):
                        self.assertLessEqual(costs[n - 1], price(prices, told_count(kind, plan, n)))

    def test_no_plan_by_chance_costs_less(self):
        luck = chance(150)
        for kind in KINDS:
            for prices in PRICES:
                told, costs = best(kind, prices, 64)
                others = consistent_costs(kind, prices, some_plan(luck, 64))
                for cost, other in zip(costs, others):
                    self.assertLessEqual(cost, other)

    def test_asked_again(self):
        prices = (10, 1, 1, 1, 2)
        self.assertEqual(best("square", prices, 64), best("square", prices, 64))
        self.assertEqual(prices, (10, 1, 1, 1, 2))


class WayCost(unittest.TestCase):
    def test_each_way(self):
        luck = chance(160)
        for kind in KINDS:
            for prices in PRICES:
                plan = some_plan(luck, 25)
                costs = consistent_costs(kind, prices, plan)
                for n in range(1, 26):
                    for p in some_ways(n):
                        wanted = price(prices, reckoned_count(kind, plan[:n - 1] + (p,), n))
                        self.assertEqual(way_cost(kind, prices, costs[:n - 1], n, p), wanted)
                        self.assertEqual(way_cost(kind, prices, costs, n, p), wanted)

    def test_costs_that_are_told(self):
        # Smaller sizes cost what is told, whatever that is.
        self.assertEqual(way_cost("product", (0, 0, 0, 0, 0), (1, 10, 100), 4, 2), 30)
        self.assertEqual(way_cost("product", (0, 0, 0, 0, 0), (1, 10, 100), 5, 2), 210)
        self.assertEqual(way_cost("product", (0, 0, 0, 0, 0), (1, 10, 100), 5, 3), 41)
        self.assertEqual(way_cost("square", (0, 0, 0, 0, 0), (1, 10, 100), 8, 4), 70)
        self.assertEqual(way_cost("square", (0, 0, 0, 0, 0), (1, 10, 100), 13, 5), 801)
        self.assertEqual(way_cost("product", (0, 0, 0, 0, 0), (1, 10, 100), 4, 1), 0)
        self.assertEqual(way_cost("product", (1, 0, 0, 0, 0), (), 1, 1), 1)
        self.assertEqual(way_cost("product", (5, 1, 0, 0, 0), (9,), 2, 1), 21)
        self.assertEqual(way_cost("square", (5, 1, 0, 3, 0), (9,), 2, 1), 18)
        self.assertEqual(way_cost("product", (5, 1, 2, 3, 4), (9,), 2, 2), 33)
        self.assertEqual(way_cost("square", (5, 1, 2, 3, 4), (9,), 2, 2), 32)

    def test_asked_again(self):
        costs = (1, 3, 5)
        told = way_cost("product", (1, 2, 3, 4, 5), costs, 4, 4)
        self.assertIs(type(told), int)
        self.assertEqual(told, way_cost("product", (1, 2, 3, 4, 5), costs, 4, 4))
        self.assertEqual(costs, (1, 3, 5))


class ShowsBest(unittest.TestCase):
    def test_what_best_tells(self):
        for kind in KINDS:
            for prices in PRICES:
                plan, costs = best(kind, prices, 64)
                for many in (1, 2, 10, 64):
                    self.assertIs(shows_best(kind, prices, plan[:many], costs[:many]), True)

    def test_other_ways(self):
        """One way otherwise: True where it is as cheap, False where it is dearer, whatever costs are told."""
        met = set()
        for kind in KINDS:
            for prices in PRICES:
                plan, costs = best(kind, prices, 20)
                for n in range(1, 21):
                    for p in some_ways(n):
                        other = put_at(plan, n - 1, p)
                        as_cheap = consistent_costs(kind, prices, other[:n])[-1] == costs[n - 1]
                        self.assertIs(shows_best(kind, prices, other, costs), as_cheap)
                        own = consistent_costs(kind, prices, other)
                        self.assertIs(shows_best(kind, prices, other, own), as_cheap)
                        met.add((p == plan[n - 1], as_cheap))
        self.assertEqual(met, {(True, True), (False, True), (False, False)})

    def test_all_plans_of_small_sizes(self):
        for kind in KINDS:
            for prices in PRICES:
                least = best(kind, prices, 6)[1]
                for plan in itertools.product(*[some_ways(n) for n in range(1, 7)]):
                    own = consistent_costs(kind, prices, plan)
                    self.assertIs(shows_best(kind, prices, plan, own), own == least)

    def test_known(self):
        times = (1, 0, 0, 0, 0)
        self.assertIs(shows_best("product", times, (1, 2, 3, 4, 5, 3), (1, 3, 5, 7, 9, 15)), True)
        self.assertIs(shows_best("product", times, (1, 2, 3, 4, 5, 1), (1, 3, 5, 7, 9, 36)), False)
        self.assertIs(shows_best("product", times, (1, 1), (1, 4)), False)
        self.assertIs(shows_best("square", times, (1, 1), (1, 3)), True)
        self.assertIs(shows_best("square", times, (1, 2), (1, 3)), True)
        self.assertIs(shows_best("product", (0,) * 5, (1, 2, 3), (0, 0, 0)), True)

    def test_costs_otherwise(self):
        for kind in KINDS:
            for prices in ((0,) * 5, (1, 0, 0, 0, 0), (10, 1, 1, 1, 2), (GREATEST,) * 5):
                plan, costs = best(kind, prices, 12)
                for at in range(12):
                    for more in (1, -1, 10 ** 9, -10 ** 9, 10 ** 60):
                        wrong = put_at(costs, at, costs[at] + more)
                        self.assertIs(shows_best(kind, prices, plan, wrong), False)
                for wrong in (costs[:-1], costs + (0,), costs + costs[-1:], costs[1:], (), costs[::-1] + (1,)):
                    self.assertIs(shows_best(kind, prices, plan, wrong), False)
                longer = best(kind, prices, 13)
                self.assertIs(shows_best(kind, prices, plan, longer[1]), False)
                self.assertIs(shows_best(kind, prices, longer[0], costs), False)

    def test_truths_among_the_costs(self):
        nothing = (0,) * 5
        self.assertIs(shows_best("product", nothing, (1, 1), (0, False)), False)
        self.assertIs(shows_best("product", nothing, (1,), (False,)), False)
        self.assertIs(shows_best("product", (1, 0, 0, 0, 0), (1,), (True,)), False)
        self.assertIs(shows_best("product", (1, 0, 0, 0, 0), (1,), (1,)), True)
        self.assertIs(shows_best("square", (1, 0, 0, 0, 0), (True,), (1,)), False)

    def test_anything(self):
        plan, costs = best("product", (10, 1, 1, 1, 2), 5)
        things = flat_things() + deep_things() + [(), 0, 1, list(plan), list(costs), str(plan), {1: 1}, (0,)]
        for kind in KINDS:
            for thing in things:
                self.assertIs(shows_best(kind, (10, 1, 1, 1, 2), thing, costs), False)
                self.assertIs(shows_best(kind, (10, 1, 1, 1, 2), plan, thing), False)
                self.assertIs(shows_best(kind, (10, 1, 1, 1, 2), thing, thing), False)
        for thing in no_numbers():
            for at in range(5):
                self.assertIs(shows_best("product", (10, 1, 1, 1, 2), plan, put_at(costs, at, thing)), False)
                self.assertIs(shows_best("product", (10, 1, 1, 1, 2), put_at(plan, at, thing), costs), False)

    def test_no_plans(self):
        zero = (0,) * 5
        for wrong in ((2,), (1, 3), (0,), (1, 1, 1, 3), (6,), (1, 2, 6), (-1,)):
            self.assertIs(shows_best("product", zero, wrong, (0,) * len(wrong)), False)

    def test_changes_nothing(self):
        plan, costs = [1, 2], [1, [2]]
        self.assertIs(shows_best("product", (1, 0, 0, 0, 0), plan, costs), False)
        self.assertEqual((plan, costs), ([1, 2], [1, [2]]))


if __name__ == "__main__":
    unittest.main()
