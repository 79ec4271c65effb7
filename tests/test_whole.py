"""What [3] and the interface promise over the whole program, over drawn inputs."""

import importlib
import math
import unittest

from partmill.allways import all_products, all_squares
from partmill.bestlooks import shows_best
from partmill.bests import best, way_cost
from partmill.byfields import by_fields, by_turning
from partmill.carrying import carried, shows_carried
from partmill.costs import cost_of, square_cost, through_cost
from partmill.desk import Desk
from partmill.dividing import divided
from partmill.errors import Shared
from partmill.fields import root
from partmill.leading import halves, led, shows_halves
from partmill.looking import shows_product, shows_square
from partmill.multiplying import multiplied, squared, through
from partmill.nearing import nears, shows_nears
from partmill.parting import square_of, through_squares, work_of
from partmill.resting import by_rests, mixed, put_back, rests, shared, shows_mixed
from partmill.rooting import root_nears, rooted, shows_root_nears
from partmill.strips import product
from partmill.texts import read_plan, read_row, read_work, show_plan, show_row, show_work
from partmill.turning import cyclic, turned, turned_back
from partmill.turnworks import ran_rests, shows_turning, turn_cost, turn_work
from partmill.works import counted, is_work, ran
from tests.primes import ALL_PRIMES, primes_for
from tests.reckoned import product_count, some_plan, square_count, through_count
from tests.things import chance, figures_of, number_told, put_at, refused, some_row, some_strip

INTERFACE = {
    "errors": "MillError Below NoDivisor NoRoot TooGreat NoText NoLine Uneven Unfit Shared",
    "rows": "row_of number_of is_row less plus minus moved cut", "strips": "product", "works": "is_work ran counted",
    "looking": "forms shows_product shows_square", "allways": "all_products all_squares", "plans": "may_cut is_plan",
    "parting": "work_of square_of through_squares", "costs": "cost_of square_cost through_cost", "bests": "best way_cost",
    "bestlooks": "shows_best", "carrying": "carried shows_carried", "multiplying": "multiplied squared through",
    "resting": "shared rests mixed put_back shows_mixed by_rests", "fields": "is_prime is_root root",
    "turning": "turned turned_back cyclic", "turnworks": "turn_work turn_cost ran_rests shows_turning",
    "byfields": "by_turning by_fields", "nearing": "nears shows_nears", "dividing": "divided",
    "rooting": "root_nears shows_root_nears rooted", "leading": "led halves shows_halves",
    "texts": "show_row read_row show_plan read_plan show_work read_work", "desk": "Desk",
}
BASES = (2, 3, 10, 16, 1000, 10 ** 6)


def some_base(luck):
    return luck.choice(BASES + (luck.randint(2, 10 ** 6),))


def some_work(luck):
    """A work of 10 to 13 with its product or square, and the strips' sizes."""
    n, m = luck.randint(1, 12), luck.randint(1, 12)
    plan = some_plan(luck, 12)
    return luck.choice((
        all_products(n, m), all_squares(n), work_of(plan, n, m), work_of(plan, n, n), square_of(plan, n), through_squares(plan, n),
    ))


def changed_work(luck, work):
    """The work with a step, an out or a number otherwise; mostly it is no longer right."""
    n, m, steps, outs = work
    if not steps or luck.random() < 0.2:
        return (n, m, steps, put_at(outs, luck.randrange(len(outs)), luck.randrange(n + m + len(steps))))
    at = luck.randrange(len(steps))
    word, left, right = steps[at]
    step = luck.choice((
        (luck.choice(("plus", "minus", "times", "by", "part")), left, right), (word, right, left), (word, left, right + 1),
        (word, max(0, left - 1), right), (word, luck.randrange(n + m + at), right),
    ))
    return (n, m, put_at(steps, at, step), outs)


def some_moduli(luck, many):
    return tuple(luck.randrange(2, 10 ** luck.randint(1, 6)) for unused in range(many))


class Interface(unittest.TestCase):
    def test_all_names_are_there(self):
        for name, told in INTERFACE.items():
            module = importlib.import_module(f"partmill.{name}")
            for wanted in told.split(" "):
                self.assertTrue(callable(vars(module)[wanted]), (name, wanted))
                self.assertEqual(vars(module)[wanted].__module__, f"partmill.{name}")
        self.assertIn("say", vars(Desk))


class TheWhole(unittest.TestCase):
    def gives(self, work, luck):
        """What the looker took gives the product, the square, of drawn strips."""
        n, m = work[:2]
        for figures in (1, 3, 60):
            one, other = some_strip(luck, n, figures), some_strip(luck, m, figures)
            self.assertEqual(ran(work, one, other), product(one, other if m else one))

    def test_a_works(self):
        luck = chance(31)
        taken = 0
        for unused in range(150):
            work = some_work(luck)
            self.assertIs(shows_product(work), work[1] > 0)
            self.assertIs(shows_square(work), work[1] == 0)
            self.gives(work, luck)
            for unused_too in range(6):
                other = changed_work(luck, work)
                if shows_product(other) or shows_square(other):
                    taken += 1
                    self.gives(other, luck)
        self.assertGreater(taken, 20)

    def test_b_counts(self):
        luck = chance(32)
        for unused in range(60):
            plan = some_plan(luck, 24)
            n, m = luck.randint(1, 24), luck.randint(1, 24)
            self.assertEqual(counted(work_of(plan, n, m)), product_count(plan, n, m))
            self.assertEqual(counted(square_of(plan, n)), square_count(plan, n))
            self.assertEqual(cost_of(plan, n, m), product_count(plan, n, m))
            self.assertEqual(square_cost(plan, n), square_count(plan, n))
            self.assertEqual(through_cost(plan, n), through_count(plan, n))
            self.assertEqual(counted(all_products(n, m)), (n * m, (n - 1) * (m - 1), 0, 0, 0))
            self.assertLessEqual(square_cost(plan, n)[0], cost_of(plan, n, n)[0])

    def test_c_best_plans(self):
        luck = chance(33)
        for unused in range(30):
            kind = luck.choice(("product", "square"))
            prices = tuple(luck.randrange(10 ** luck.randint(0, 6)) for unused in range(5))
            most = luck.randint(1, 40)
            plan, costs = best(kind, prices, most)
            self.assertIs(shows_best(kind, prices, plan, costs), True)
            for unused_too in range(5):
                other = some_plan(luck, most)
                for n in range(1, most + 1):
                    count = cost_of(other, n, n) if kind == "product" else square_cost(other, n)
                    self.assertLessEqual(costs[n - 1], sum(many * price for many, price in zip(count, prices)))
                others = []
                for n in range(1, most + 1):
                    others.append(way_cost(kind, prices, tuple(others), n, other[n - 1]))
                if shows_best(kind, prices, other, tuple(others)):
                    self.assertEqual(tuple(others), costs)

    def test_d_one_product(self):
        luck = chance(34)
        for unused in range(60):
            base = some_base(luck)
            one, other = some_row(luck, base, luck.randint(0, 16)), some_row(luck, base, luck.randint(0, 16))
            plan = some_plan(luck, 16)
            wanted = figures_of(base, number_told(base, one) * number_told(base, other))
            self.assertEqual(multiplied(base, plan, one, other), wanted)
            self.assertEqual(through(base, plan, one, other), wanted)
            self.assertEqual(squared(base, plan, one), figures_of(base, number_told(base, one) ** 2))
            self.assertEqual(by_rests(base, tuple(ALL_PRIMES[-40:]), one, other), wanted)
            fields = primes_for(32)
            self.assertEqual(by_fields(base, tuple(luck.sample(fields[50:], 4)), one, other), wanted)
            if base <= 16:
                self.assertEqual(by_turning(base, luck.choice(fields[-50:]), one, other), wanted)

    def test_d_carried_figures(self):
        luck = chance(35)
        for unused in range(200):
            base = some_base(luck)
            strip = some_strip(luck, luck.randint(1, 20), luck.choice((1, 8, 60)))
            if number_told(base, strip) < 0:
                strip = tuple(-number for number in strip)
            row, carries = carried(base, strip)
            self.assertEqual(row, figures_of(base, number_told(base, strip)))
            self.assertIs(shows_carried(base, strip, row, carries), True)
            other = figures_of(base, number_told(base, strip) + luck.choice((1, base, 10 ** 60)))
            self.assertIs(shows_carried(base, strip, other, carries), False)

    def test_e_rests(self):
        luck = chance(36)
        for unused in range(300):
            moduli = some_moduli(luck, luck.randint(1, 5))
            pairs = [(i, j) for i in range(len(moduli)) for j in range(i + 1, len(moduli)) if math.gcd(moduli[i], moduli[j]) > 1]
            number = luck.randrange(math.prod(moduli))
            told = rests(moduli, number)
            if pairs:
                self.assertEqual(shared(moduli), pairs[0])
                refusal = refused(self, Shared, put_back, moduli, told)
                self.assertEqual((refusal.first, refusal.second), pairs[0])
                continue
            self.assertIs(shared(moduli), None)
            self.assertEqual(put_back(moduli, told), number)
            digits = mixed(moduli, told)
            self.assertIs(shows_mixed(moduli, told, digits), True)
            another = rests(moduli, (number + luck.randrange(1, math.prod(moduli))) % math.prod(moduli))
            self.assertNotEqual(another, told)
            self.assertIs(shows_mixed(moduli, another, digits), False)

    def test_f_turned_rows(self):
        luck = chance(37)
        for unused in range(80):
            n = luck.randint(1, 40)
            p = luck.choice(primes_for(n)[:200])
            w = pow(root(p, n), luck.choice([k for k in range(1, n + 1) if math.gcd(k, n) == 1]), p)
            one, other = some_strip(luck, n, 60), some_strip(luck, n, 60)
            there = turned(p, w, one)
            self.assertEqual(turned_back(p, w, there), tuple(number % p for number in one))
            places = tuple(left * right for left, right in zip(there, turned(p, w, other)))
            self.assertEqual(turned_back(p, w, places), cyclic(p, one, other))
            work = turn_work(p, w, n)
            self.assertEqual(ran_rests(p, work, one), there)
            self.assertEqual(counted(work), turn_cost(n))
            self.assertIs(shows_turning(p, w, work), True)
            changed = changed_work(luck, work)
            if is_work(changed) and shows_turning(p, w, changed):
                self.assertEqual(ran_rests(p, changed, one), there)

    def test_g_nearing(self):
        luck = chance(38)
        for unused in range(150):
            base = some_base(luck)
            one, other = some_row(luck, base, luck.randint(0, 60)), some_row(luck, base, luck.randint(1, 40))
            u, v = number_told(base, one), number_told(base, other)
            least = luck.randint(1, 40)
            told = nears(base, other, least)
            self.assertIs(shows_nears(base, other, least, told), True)
            for at, (s, x, guess) in enumerate(told):
                self.assertEqual((s, x), (2 ** at, base ** (len(other) + s) // v))
                self.assertTrue(guess is None if at == 0 else x - guess in (0, 1))
            quotient, rest, guess = divided(base, one, other)
            self.assertEqual((number_told(base, quotient), number_told(base, rest)), divmod(u, v))
            self.assertIn(number_told(base, quotient) - guess, (0, 1))
            told = root_nears(base, one)
            self.assertIs(shows_root_nears(base, one, told), True)
            t = (len(one) + 1) // 2
            for at, (s, r, guess) in enumerate(told):
                self.assertEqual(r, math.isqrt(u // base ** (2 * (t - s))))
                self.assertEqual(len(figures_of(base, r)), s)
                self.assertTrue(guess is None if at == 0 else guess - r in (0, 1))
            whole, left = rooted(base, one)
            self.assertEqual(number_told(base, whole), math.isqrt(u))
            self.assertEqual(number_told(base, whole) ** 2 + number_told(base, left), u)

    def same_numbers(self, base, goal, row, tree):
        """Each of a row's halves tells the same number."""
        self.assertEqual(number_told(goal, tree[0]), number_told(base, row))
        if tree[1]:
            at = (len(row) + 1) // 2
            self.same_numbers(base, goal, figures_of(base, number_told(base, row[:at])), tree[1][0])
            self.same_numbers(base, goal, row[at:], tree[1][1])
        else:
            self.assertLess(len(row), 2)

    def test_h_other_bases(self):
        luck = chance(39)
        for unused in range(100):
            base, goal = some_base(luck), some_base(luck)
            row = some_row(luck, base, luck.randint(0, 40))
            self.assertEqual(number_told(goal, led(base, goal, row)), number_told(base, row))
            self.assertEqual(led(goal, base, led(base, goal, row)), row)
            tree = halves(base, goal, row)
            self.same_numbers(base, goal, row, tree)
            self.assertIs(shows_halves(base, goal, row, tree), True)

    def test_i_texts(self):
        luck = chance(40)
        for unused in range(100):
            base = some_base(luck)
            row, plan, work = some_row(luck, base, luck.randint(0, 40)), some_plan(luck, luck.randint(1, 64)), some_work(luck)
            self.assertEqual(read_row(base, show_row(row)), row)
            self.assertEqual(read_plan(show_plan(plan)), plan)
            self.assertEqual(read_work(show_work(work)), work)

    def test_i_desk(self):
        luck = chance(41)
        for unused in range(60):
            base, goal = some_base(luck), some_base(luck)
            one, other = some_row(luck, base, luck.randint(0, 9)), some_row(luck, base, luck.randint(1, 9))
            plan = some_plan(luck, 9)
            n, m = luck.randint(1, 9), luck.randint(1, 9)
            desk = Desk(base)
            first, second = show_row(one), show_row(other)
            whole, left = rooted(base, one)
            quotient, rest, guess = divided(base, one, other)
            for line, wanted in (
                (f"plan {show_plan(plan)}", "ok"),
                (f"times {first} {second}", show_row(multiplied(base, plan, one, other))),
                (f"through {first} {second}", show_row(through(base, plan, one, other))),
                (f"square {first}", show_row(squared(base, plan, one))),
                (f"cost {n} {m}", show_plan(cost_of(plan, n, m))),
                (f"work {n} {m}", show_work(work_of(plan, n, m))),
                (f"takes {show_work(work_of(plan, n, m))}", "yes"),
                (f"divide {first} {second}", f"{show_row(quotient)} {show_row(rest)}"),
                (f"root {first}", f"{show_row(whole)} {show_row(left)}"),
                (f"lead {goal} {first}", show_row(led(base, goal, one))),
            ):
                self.assertEqual(desk.say(line), wanted)


if __name__ == "__main__":
    unittest.main()
