"""What [22] says of works that turn, and [3] (f) of them."""

import unittest

from partmill.turnworks import ran_rests, shows_turning, turn_cost, turn_work
from partmill.works import counted, is_work, ran
from tests.primes import rests_of, roots_for_tests, roots_of, some_primes, sums_turned
from tests.things import (
    all_whole, chance, deep_things, flat_things, no_numbers, nested, put_at, some_strip, told_parts,
)

# Odd ones, some even once, some several times, powers of 2.
SIZES = (1, 3, 5, 7, 9, 15, 21, 2, 6, 10, 14, 18, 12, 20, 24, 28, 40, 48, 4, 8, 16, 32, 64)


def reckoned_count(n):
    """times, plus, minus, by, part, as [22] tells them."""
    if n == 1:
        return (0, 0, 0, 0, 0)
    if n % 2 == 1:
        return (0, n * (n - 1), 0, (n - 1) * (n - 1), 0)
    below = reckoned_count(n // 2)
    return (0, 2 * below[1] + n // 2, 2 * below[2] + n // 2, 2 * below[3] + n // 2 - 1, 0)


class TurnWork(unittest.TestCase):
    def test_works(self):
        luck = chance(2200)
        for n in SIZES:
            for p, w in roots_for_tests(n):
                with self.subTest(n=n, p=p, w=w):
                    work = turn_work(p, w, n)
                    self.assertIs(is_work(work), True)
                    self.assertTrue(all_whole(told_parts(work)))
                    self.assertEqual(work[:2], (n, 0))
                    self.assertEqual(len(work[3]), n)
                    self.assertEqual({step[0] for step in work[2]} - {"plus", "minus", "by"}, set())
                    self.assertTrue(all(0 <= step[2] < p for step in work[2] if step[0] == "by"))
                    self.assertEqual(counted(work), reckoned_count(n))
                    self.assertEqual(turn_work(p, w, n), work)
                    for figures in (1, 60):
                        strip = some_strip(luck, n, figures)
                        self.assertEqual(rests_of(p, ran(work, strip, ())), sums_turned(p, w, strip))
                        self.assertEqual(ran_rests(p, work, strip), sums_turned(p, w, strip))

    def test_no_step(self):
        for p in (2, 3, 999983):
            self.assertEqual(turn_work(p, 1, 1), (1, 0, (), (0,)))

    def test_greater_sizes(self):
        luck = chance(2201)
        for n in (101, 150, 200, 256):
            p, w = roots_for_tests(n)[-1]
            work = turn_work(p, w, n)
            self.assertEqual(counted(work), reckoned_count(n))
            strip = some_strip(luck, n, 60)
            self.assertEqual(ran_rests(p, work, strip), sums_turned(p, w, strip))
            self.assertIs(shows_turning(p, w, work), True)


class TurnCost(unittest.TestCase):
    def test_all_sizes(self):
        for n in range(1, 401):
            told = turn_cost(n)
            self.assertEqual(told, reckoned_count(n))
            self.assertTrue(all_whole(told))

    def test_known(self):
        for n, wanted in (
            (1, (0, 0, 0, 0, 0)), (2, (0, 1, 1, 0, 0)), (3, (0, 6, 0, 4, 0)), (4, (0, 4, 4, 1, 0)), (5, (0, 20, 0, 16, 0)),
            (6, (0, 15, 3, 10, 0)), (8, (0, 12, 12, 5, 0)), (12, (0, 36, 12, 25, 0)), (399, (0, 158802, 0, 158404, 0)),
        ):
            self.assertEqual(turn_cost(n), wanted)

    def test_counts_of_works(self):
        for n in range(1, 41):
            p, w = roots_for_tests(n)[0]
            self.assertEqual(turn_cost(n), counted(turn_work(p, w, n)))


class RanRests(unittest.TestCase):
    def some_work(self, luck, n, many):
        steps = []
        for at in range(n, n + many):
            word = luck.choice(("times", "plus", "minus", "by"))
            right = luck.choice((-1, 0, 1, -10 ** 60 + 1, luck.randrange(10 ** 60))) if word == "by" else luck.randrange(at)
            steps.append((word, luck.randrange(at), right))
        outs = tuple(luck.randrange(n + many) for unused in range(luck.randint(1, 9)))
        return (n, 0, tuple(steps), outs)

    def test_against_whole_numbers(self):
        luck = chance(2202)
        for unused in range(300):
            n = luck.randint(1, 6)
            work = self.some_work(luck, n, luck.randint(0, 12))
            strip = some_strip(luck, n, luck.choice((1, 6, 60)))
            for p in (2, 3, 101, 999983):
                told = ran_rests(p, work, strip)
                self.assertEqual(told, rests_of(p, ran(work, strip, ())))
                self.assertTrue(all_whole(told))

    def test_known(self):
        work = (2, 0, (("times", 0, 1), ("by", 2, -3), ("minus", 0, 3), ("plus", 4, 4)), (5, 0, 5, 3, 1, 1))
        self.assertEqual(ran(work, (4, -5), ()), (-112, 4, -112, 60, -5, -5))
        self.assertEqual(ran_rests(7, work, (4, -5)), (0, 4, 0, 4, 2, 2))
        self.assertEqual(ran_rests(2, work, (4, -5)), (0, 0, 0, 0, 1, 1))
        self.assertEqual(ran_rests(101, work, (4, -5)), (90, 4, 90, 60, 96, 96))

    def test_no_step(self):
        self.assertEqual(ran_rests(7, (2, 0, (), (1, 0, 1)), (-1, 10 ** 60)), (10 ** 60 % 7, 6, 10 ** 60 % 7))

    def test_squares_over_and_over(self):
        # The whole numbers would have more figures than there is room for.
        steps = tuple(("times", at, at) for at in range(6000))
        self.assertEqual(ran_rests(999983, (1, 0, steps, (6000,)), (5,)), (pow(5, pow(2, 6000, 999982), 999983),))

    def test_asked_again(self):
        work, strip = (2, 0, (("times", 0, 1),), (2,)), (10 ** 60, -7)
        self.assertEqual(ran_rests(11, work, strip), ran_rests(11, work, strip))
        self.assertEqual((work, strip), ((2, 0, (("times", 0, 1),), (2,)), (10 ** 60, -7)))


# Turns two numbers by each prime but 2: the root is -1.
TWO = (2, 0, (("plus", 0, 1), ("minus", 0, 1)), (2, 3))
# Turns three numbers by 7 and 2, with numbers beyond 7 and below nought, and idle steps.
THREE = (3, 0, (
    ("plus", 0, 1), ("plus", 3, 2), ("by", 0, 10 ** 60), ("by", 1, 9), ("by", 2, -3), ("minus", 5, 5),
    ("plus", 0, 6), ("plus", 9, 7), ("by", 1, -10), ("by", 2, 702), ("minus", 0, 12), ("by", 12, 0), ("plus", 0, 11),
    ("plus", 15, 12),
), (4, 10, 16))


class ShowsTurning(unittest.TestCase):
    def check(self, wanted, p, w, thing):
        self.assertIs(shows_turning(p, w, thing), wanted)
        self.assertIs(shows_turning(p, w, thing), wanted)

    def test_turn_works(self):
        for n in SIZES:
            for p, w in roots_for_tests(n):
                self.check(True, p, w, turn_work(p, w, n))

    def test_other_right_works(self):
        for p in (3, 5, 7, 999983):
            self.check(True, p, p - 1, TWO)
        self.check(True, 7, 2, THREE)
        self.check(False, 7, 4, THREE)
        self.check(False, 13, 3, THREE)
        self.check(True, 2, 1, (1, 0, (), (0,)))
        self.check(True, 2, 1, (1, 0, (("by", 0, 10 ** 60 + 1),), (1,)))
        self.check(False, 2, 1, (1, 0, (("by", 0, 10 ** 60),), (1,)))
        self.check(True, 5, 1, (1, 0, (("by", 0, -4), ("minus", 1, 0), ("plus", 2, 0)), (3,)))

    def test_moved_by_the_prime(self):
        for n in (3, 4, 6, 8, 9, 12):
            for p, w in roots_for_tests(n):
                size, m, steps, outs = turn_work(p, w, n)
                for more in (p, -p, 10 ** 54 * p):
                    other = tuple((word, i, k + more) if word == "by" else (word, i, k) for word, i, k in steps)
                    self.check(True, p, w, (size, m, other, outs))
                idle = steps + (("by", 0, -10 ** 60), ("plus", outs[-1], outs[0]), ("minus", 0, 0), ("by", outs[0], 1))
                self.check(True, p, w, (size, m, idle, outs))
                self.check(True, p, w, (size, m, idle, (n + len(idle) - 1,) + outs[1:]))

    def test_another_root(self):
        for n in (3, 4, 5, 8, 12):
            for p in some_primes(n):
                roots = roots_of(p, n)[:4]
                for w in roots:
                    for other in roots:
                        self.check(w == other, p, other, turn_work(p, w, n))

    def test_a_root_of_another_size(self):
        # A root of 8 and 16 asked of a work for 4, and the other way about.
        work = turn_work(17, 4, 4)
        self.check(True, 17, 4, work)
        for w in (1, 2, 3, 9, 16):
            self.check(False, 17, w, work)
        self.check(False, 17, 4, turn_work(17, 2, 8))
        self.check(False, 17, 16, turn_work(17, 4, 4))

    def test_a_step_otherwise(self):
        for n in (2, 3, 4, 6, 8):
            for p in some_primes(n)[1:]:
                w = roots_of(p, n)[0]
                size, m, steps, outs = turn_work(p, w, n)
                for at, (word, left, right) in enumerate(steps):
                    if word == "by":
                        wrong = [(word, left, right + 1), (word, left, -right), (word, left, 0), ("plus", left, left)]
                        wrong.append((word, (left + 1) % n, right))
                    else:
                        wrong = [({"plus": "minus", "minus": "plus"}[word], left, right), (word, left, left)]
                        wrong.append(("by", left, 1))
                    for step in wrong:
                        thing = (size, m, put_at(steps, at, step), outs)
                        if is_work(thing) and thing[2] != steps:
                            columns = [ran(thing, tuple(int(i == j) for j in range(n)), ()) for i in range(n)]
                            right_one = all(
                                columns[i][k] % p == pow(w, i * k, p) for i in range(n) for k in range(n)
                            )
                            self.check(right_one, p, w, thing)
                            self.assertFalse(right_one)

    def test_an_out_otherwise(self):
        for n in (1, 2, 3, 4, 6, 8):
            for p, w in roots_for_tests(n):
                size, m, steps, outs = turn_work(p, w, n)
                more = steps + (("by", 0, 0),)
                for at in range(n):
                    self.check(False, p, w, (size, m, more, put_at(outs, at, n + len(steps))))
                    for other in set(outs) - {outs[at]}:
                        self.check(False, p, w, (size, m, steps, put_at(outs, at, other)))
                self.check(False, p, w, (size, m, steps, outs + outs[:1]))
                self.check(False, p, w, (size, m, steps, outs + outs[-1:]))
                self.check(False, p, w, (size, m, steps, outs[:-1]))
                self.check(False, p, w, (size, m, steps, outs[1:]))

    def test_a_second_strip(self):
        self.check(False, 7, 6, (2, 1, (("plus", 0, 1), ("minus", 0, 1)), (3, 4)))
        self.check(False, 7, 1, (1, 1, (), (0,)))
        self.check(False, 7, 6, (1, 1, (("plus", 0, 1), ("minus", 0, 1)), (2, 3)))

    def test_times_and_part(self):
        for n in (1, 2, 3, 4):
            for p, w in roots_for_tests(n):
                size, m, steps, outs = turn_work(p, w, n)
                self.check(False, p, w, (size, m, steps + (("times", 0, 0),), outs))
                self.check(False, p, w, (size, m, steps + (("part", 0, 2),), outs))
                behind = n + len(steps)
                fit = (("by", outs[0], 2), ("part", behind, 2))
                self.check(False, p, w, (size, m, steps + fit, (behind + 1,) + outs[1:]))
                self.check(True, p, w, (size, m, steps + fit[:1], outs))
        self.check(False, 5, 4, (2, 0, (("plus", 0, 1), ("minus", 0, 1), ("by", 0, 4), ("part", 4, 4)), (2, 3)))
        # As its numbers go, times 1 and 0 alone, cell 0 would be its own square.
        self.check(False, 2, 1, (1, 0, (("times", 0, 0),), (1,)))

    def test_great_sizes_without_outs(self):
        self.check(False, 7, 1, (10 ** 60, 0, (), (0,)))
        self.check(False, 7, 1, (10 ** 60, 10 ** 60, (), (0,)))

    def test_anything(self):
        work = turn_work(7, 2, 3)
        n, m, steps, outs = work
        for thing in flat_things() + deep_things() + [0, 1, (), (1,), work[:3], work + (0,), list(work), (work,)]:
            self.check(False, 7, 2, thing)
        for thing in no_numbers():
            for at in range(4):
                self.check(False, 7, 2, put_at(work, at, thing))
            self.check(False, 7, 2, (n, m, put_at(steps, 0, thing), outs))
            for at in range(3):
                self.check(False, 7, 2, (n, m, put_at(steps, 0, put_at(steps[0], at, thing)), outs))
                self.check(False, 7, 2, (n, m, steps, put_at(outs, at, thing)))
        self.check(False, 7, 2, (n, m, list(steps), outs))
        self.check(False, 7, 2, (n, m, steps, list(outs)))
        self.check(False, 7, 2, (n, m, put_at(steps, 0, list(steps[0])), outs))
        self.check(False, 7, 2, (n, False, steps, outs))
        self.check(False, 2, 1, (True, 0, (), (0,)))
        self.check(False, 2, 1, (1, 0, (), (False,)))
        self.check(False, 2, 1, (1, 0, (("by", 0, True),), (1,)))
        self.check(False, 7, 2, nested(work, lambda thing: (thing,), 26))

    def test_changes_nothing(self):
        thing = [2, 0, [["plus", 0, 1]], [2, 2]]
        self.check(False, 7, 6, thing)
        self.assertEqual(thing, [2, 0, [["plus", 0, 1]], [2, 2]])


if __name__ == "__main__":
    unittest.main()
