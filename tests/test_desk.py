"""What [30] says of the desk, and [3] (i) of it."""

import math
import unittest

from partmill.bests import best
from partmill.byfields import by_turning
from partmill.costs import cost_of, square_cost
from partmill.desk import Desk
from partmill.dividing import divided
from partmill.errors import NoLine, NoRoot, TooGreat
from partmill.leading import led
from partmill.looking import shows_product
from partmill.parting import square_of, work_of
from partmill.resting import mixed, rests
from partmill.texts import show_work
from tests.primes import ALL_PRIMES
from tests.reckoned import ones, product_count, some_plan
from tests.things import chance, deep_things, figures_of, flat_things, number_told, refused, some_row

BASES = (2, 3, 10, 16, 1000, 10 ** 6)
MODULI = tuple(p for p in ALL_PRIMES if p > 999000)[:41]


def text_of(row):
    return ".".join(str(figure) for figure in reversed(row)) if row else "-"


def points(numbers):
    return ".".join(str(number) for number in numbers)


def words(*told):
    return " ".join(str(word) for word in told)


def with_plan(base, plan):
    desk = Desk(base)
    assert desk.say("plan " + points(plan)) == "ok"
    return desk


class Lines(unittest.TestCase):
    def check(self, desk, line, wanted):
        """The answer, the same when asked again."""
        for unused in range(2):
            told = desk.say(line)
            self.assertIs(type(told), str)
            self.assertEqual(told, wanted)

    def refuse(self, line, desk=None):
        refused(self, NoLine, (desk or Desk(10)).say, line)

    def plan_length(self, desk):
        """How many sizes the kept plan has, as the lines tell it."""
        return max((n for n in range(1, 401) if desk.say(f"cost {n} {n}") != "too long"), default=0)


class Plans(Lines):
    def test_at_first(self):
        desk = Desk(10)
        self.assertEqual(self.plan_length(desk), 1)
        self.check(desk, "cost 1 1", "1.0.0.0.0")
        self.check(desk, "cost 1 400", "400.0.0.0.0")
        self.check(desk, "cost 2 2", "too long")

    def test_plan(self):
        desk = Desk(10)
        self.check(desk, "plan 1.2", "ok")
        self.check(desk, "cost 2 2", points(cost_of((1, 2), 2, 2)))
        self.check(desk, "plan 1.1", "ok")
        self.check(desk, "cost 2 2", "4.1.0.0.0")
        self.check(desk, "cost 3 3", "too long")
        self.check(desk, "plan 1", "ok")
        self.check(desk, "cost 2 2", "too long")
        self.check(desk, "plan " + points(ones(64)), "ok")
        self.assertEqual(self.plan_length(desk), 64)
        self.check(desk, "plan " + points(ones(400)), "ok")
        self.assertEqual(self.plan_length(desk), 400)

    def test_best(self):
        for kind in ("product", "square"):
            for prices in ((10, 1, 1, 1, 2), (1, 0, 0, 0, 0), (0, 0, 0, 0, 0), (10 ** 6,) * 5, (1000, 3, 3, 5, 9)):
                for most in (1, 2, 9, 20):
                    desk = Desk(10)
                    plan, costs = best(kind, prices, most)
                    self.check(desk, words("best", kind, most, *prices), f"{points(plan)} {costs[most - 1]}")
                    self.assertEqual(self.plan_length(desk), most)
                    for n in range(1, most + 1):
                        self.check(desk, f"cost {n} {n}", points(cost_of(plan, n, n)))
        desk = Desk(10)
        plan, costs = best("square", (9, 1, 1, 1, 1), 64)
        self.check(desk, "best square 64 9 1 1 1 1", f"{points(plan)} {costs[63]}")
        self.assertEqual(sum(many * price for many, price in zip(square_cost(plan, 64), (9, 1, 1, 1, 1))), costs[63])

    def test_known(self):
        desk = Desk(10)
        self.check(desk, "best product 3 10 1 1 1 2", "1.2.2 86")
        self.check(desk, "best product 1 7 0 0 0 0", "1 7")
        self.check(desk, "best square 2 1 0 0 0 0", "1.1 3")

    def test_left_by_all_others(self):
        plan = (1, 2, 3, 2, 5)
        desk = with_plan(10, plan)
        work = show_work(work_of(plan, 5, 5))
        for line in (
            "cost 5 5", "cost 6 6", "work 5 5", "work 6 6", "takes work 1 1 * 0 1 : 2", "takes work 1 1 + 0 1 : 2", "times 1 1",
            "times 1.1.1.1.1.1 1.1.1.1.1.1", "square 1.1", "through 1.1 1", "through 1.1.1.1.1.1 1", "rests 1.2 3 5", "rests 1.2 3 3",
            "turn 17 1 1", "turn 7 1.1 1.1", "turn 17 9 9", "divide 9.9 3", "divide 1 -", "root 9.9", "lead 2 9.9",
        ):
            desk.say(line)
            self.check(desk, "work 5 5", work)
            self.check(desk, "cost 6 6", "too long")

    def test_left_by_refusals(self):
        plan = (1, 2, 3, 2, 5)
        desk = with_plan(10, plan)
        work = show_work(work_of(plan, 5, 5))
        for line in (
            "plan", "plan -", "plan 2", "plan 1.3", "plan 1.2 ", "plan 1.2 1", "plan 1.2.", "plan 01", "best", "best product",
            "best product 65 1 1 1 1 1", "best product 0 1 1 1 1 1", "best product 5 1 1 1 1", "best product 5 1 1 1 1 1 1",
            "best product 5 1 1 1 1 1000001", "best other 5 1 1 1 1 1", "best product 5 1 1 1 1 -1", "", None, 7,
        ):
            self.refuse(line, desk)
            self.check(desk, "work 5 5", work)
            self.check(desk, "cost 6 6", "too long")

    def test_desks_apart(self):
        one, other = Desk(10), Desk(10)
        one.say("plan 1.2.3")
        self.assertEqual((self.plan_length(one), self.plan_length(other)), (3, 1))
        other.say("best product 7 5 1 1 1 1")
        self.assertEqual((self.plan_length(one), self.plan_length(other)), (3, 7))
        self.assertEqual(self.plan_length(Desk(10)), 1)
        sixteen = Desk(16)
        self.check(sixteen, "times 15 15", "14.1")
        self.refuse("times 15 15", one)


class Works(Lines):
    def test_cost(self):
        luck = chance(3000)
        for many in (1, 2, 5, 9, 24):
            plan = some_plan(luck, many)
            desk = with_plan(10, plan)
            for n, m in ((1, 1), (2, 1), (2, 2), (3, 5), (5, 400), (9, 9), (24, 23), (25, 24), (400, 1), (399, 24), (400, 400)):
                wanted = points(product_count(plan, n, m)) if min(n, m) <= many else "too long"
                self.check(desk, f"cost {n} {m}", wanted)
                self.check(desk, f"cost {m} {n}", wanted)
        self.check(with_plan(10, ones(400)), "cost 400 400", "160000.159201.0.0.0")

    def test_work(self):
        luck = chance(3001)
        for many in (1, 2, 5, 9, 24):
            plan = some_plan(luck, many)
            desk = with_plan(10, plan)
            for n, m in ((1, 1), (2, 1), (2, 2), (3, 5), (5, 24), (9, 9), (24, 1), (10, 10), (24, 24)):
                if min(n, m) > many:
                    self.check(desk, f"work {n} {m}", "too long")
                    continue
                self.check(desk, f"work {n} {m}", show_work(work_of(plan, n, m)))
                self.check(desk, "takes " + desk.say(f"work {n} {m}"), "yes")
        self.check(Desk(10), "work 1 1", "work 1 1 * 0 1 : 2")

    def test_takes(self):
        desk = Desk(10)
        for text, wanted in (
            ("work 1 1 * 0 1 : 2", "yes"), ("work 1 1 * 1 0 : 2", "yes"), ("work 1 1 + 0 1 : 2", "no"), ("work 1 1 * 0 0 : 2", "no"),
            ("work 1 1 * 0 1 : 2 2", "no"), ("work 1 0 * 0 0 : 1", "no"), ("work 1 1 : 0", "no"), ("work 1 1 / 0 2 * 2 1 : 3", "no"),
            ("work 1 1 x 0 -1 * 2 1 x 3 -1 : 4", "yes"), ("work 1 1 x 0 3 * 2 1 / 3 3 : 4", "yes"), (f"work {10 ** 59} 1 : 0", "no"),
        ):
            self.check(desk, "takes " + text, wanted)
        self.check(desk, "takes " + show_work(square_of((1, 2, 3), 3)), "no")
        for work in (work_of((1, 2, 3), 3, 3), work_of((1, 1), 2, 24)):
            self.assertIs(shows_product(work), True)
            self.check(desk, "takes " + show_work(work), "yes")
            n, m, steps, outs = work
            self.check(desk, "takes " + show_work((n, m, steps, outs[::-1])), "no")

    def test_no_work_behind_takes(self):
        for line in (
            "takes", "takes ", "takes  work 1 1 * 0 1 : 2", "takes work", "takes work 1 1", "takes work 1 1 * 0 1 :", "takes 1 1 * 0 1 : 2",
            "takes work 1 1 * 0 1 : 3", "takes work 1 1 * 0 2 : 2", "takes work 0 1 : 0", "takes work 1 1 * 0 1 : 2 ", "takes -", "takes 1",
            "takes work 1 1 * 0 1 : 2\n", "takes work 1 1 x 0 -0 : 2", "takes work 01 1 * 0 1 : 2", "takes takes work 1 1 * 0 1 : 2",
            "takeswork 1 1 * 0 1 : 2", "takes work 1 1 * 0 1 : 2 yes", "work 1 1 * 0 1 : 2",
        ):
            self.refuse(line)


class Products(Lines):
    def rows(self, luck, base):
        return [(), (1,), (base - 1,)] + [some_row(luck, base, many) for many in (1, 2, 3, 4, 5, 6, 9)] + [(base - 1,) * 5]

    def test_times_square_through(self):
        luck = chance(3002)
        for base in BASES:
            for many in (1, 2, 5, 9):
                desk = with_plan(base, some_plan(luck, many))
                for one in self.rows(luck, base):
                    u = number_told(base, one)
                    square = text_of(figures_of(base, u * u)) if len(one) <= many else "too long"
                    self.check(desk, f"square {text_of(one)}", square)
                    for other in self.rows(luck, base):
                        row = text_of(figures_of(base, u * number_told(base, other)))
                        lesser, greater = sorted((len(one), len(other)))
                        self.check(desk, f"times {text_of(one)} {text_of(other)}", row if lesser <= many else "too long")
                        fits = lesser == 0 or greater <= many
                        self.check(desk, f"through {text_of(one)} {text_of(other)}", row if fits else "too long")

    def test_nought_is_never_too_long(self):
        desk = Desk(10)
        long_row = points((1,) * 400)
        for line in (f"times - {long_row}", f"times {long_row} -", f"through - {long_row}", f"through {long_row} -",
                     "times - -", "through - -", "square -", "times - 1", "through 1 -"):
            self.check(desk, line, "-")
        self.check(desk, f"times {long_row} 2", points((2,) * 400))
        self.check(desk, f"through {long_row} 2", "too long")
        self.check(desk, f"square {long_row}", "too long")
        self.check(desk, "times 1.1 1.1", "too long")

    def test_known(self):
        desk = with_plan(10, (1, 2))
        self.check(desk, "times 1.2 3.4", "4.0.8")
        self.check(desk, "square 9.9", "9.8.0.1")
        self.check(desk, "through 9.9 9", "8.9.1")
        self.check(Desk(10 ** 6), "times 999999 999999", "999998.1")

    def test_turn(self):
        luck = chance(3003)
        for base in (2, 3, 10, 16):
            for p in (2, 3, 5, 17, 97, 193, 257, 769, 12289, 999983, ALL_PRIMES[-2], 786433):
                desk = Desk(base)
                for one in self.rows(luck, base):
                    for other in self.rows(luck, base)[::2]:
                        try:
                            wanted = text_of(by_turning(base, p, one, other))
                            self.assertEqual(wanted, text_of(figures_of(base, number_told(base, one) * number_told(base, other))))
                        except NoRoot:
                            wanted = "no root"
                        except TooGreat:
                            wanted = "too great"
                        self.check(desk, f"turn {p} {text_of(one)} {text_of(other)}", wanted)

    def test_turn_known(self):
        desk = Desk(10)
        self.check(desk, "turn 193 1.2 1.2", "1.4.4")
        self.check(desk, "turn 7 1.2 1.2", "no root")
        self.check(desk, "turn 17 9 9", "too great")
        self.check(desk, "turn 2 9 9", "no root")
        self.check(desk, "turn 2 - 9", "-")
        self.check(desk, "turn 17 9.9.9 -", "-")
        self.check(desk, "turn 999983 9 9", "8.1")


class OtherLines(Lines):
    def test_rests(self):
        luck = chance(3004)
        for base in BASES:
            desk = Desk(base)
            for moduli in ((2,), (999999,), (3, 5, 7), (4, 9, 25), (999983, 2, 3), MODULI[:40]):
                for many in (0, 1, 2, 9, 60):
                    row = some_row(luck, base, many)
                    number = number_told(base, row)
                    told = rests(moduli, number)
                    self.assertEqual(told, tuple(number % modulus for modulus in moduli))
                    wanted = f"{points(told)} {points(mixed(moduli, told))}"
                    self.check(desk, words("rests", text_of(row), *moduli), wanted)

    def test_rests_known(self):
        desk = Desk(10)
        self.check(desk, "rests 2.3 3 5 7", "2.3.2 2.2.1")
        self.check(desk, "rests - 3 5", "0.0 0.0")
        self.check(desk, "rests 9 7", "2 2")
        self.check(desk, "rests 9.9 999999", "99 99")

    def test_shared(self):
        desk = Desk(10)
        for moduli in ((2, 2), (6, 4), (3, 5, 3), (5, 6, 9), (35, 2, 9, 21, 5), MODULI[:39] + MODULI[38:39]):
            pairs = [(i, j) for i in range(len(moduli)) for j in range(i + 1, len(moduli)) if math.gcd(moduli[i], moduli[j]) > 1]
            for row in ("-", "7", "1.2.3"):
                self.check(desk, words("rests", row, *moduli), words("shared", *pairs[0]))
        self.check(desk, "rests 1 35 2 9 21 5", "shared 0 3")

    def test_divide(self):
        luck = chance(3005)
        for base in BASES:
            desk = Desk(base)
            for one in ((), (1,), (base - 1,) * 4, some_row(luck, base, 1), some_row(luck, base, 9), some_row(luck, base, 60)):
                self.check(desk, f"divide {text_of(one)} -", "no divisor")
                for other in ((1,), (base - 1,), (0, 1), some_row(luck, base, 3), some_row(luck, base, 20)):
                    quotient, rest = divmod(number_told(base, one), number_told(base, other))
                    wanted = f"{text_of(figures_of(base, quotient))} {text_of(figures_of(base, rest))}"
                    self.check(desk, f"divide {text_of(one)} {text_of(other)}", wanted)
                    self.assertEqual(tuple(text_of(row) for row in divided(base, one, other)[:2]), tuple(wanted.split(" ")))

    def test_root(self):
        luck = chance(3006)
        for base in BASES:
            desk = Desk(base)
            for many in (0, 1, 2, 3, 4, 9, 60):
                for row in (some_row(luck, base, many), (base - 1,) * many):
                    u = number_told(base, row)
                    root = math.isqrt(u)
                    wanted = f"{text_of(figures_of(base, root))} {text_of(figures_of(base, u - root * root))}"
                    self.check(desk, f"root {text_of(row)}", wanted)

    def test_lead(self):
        luck = chance(3007)
        for base in BASES:
            desk = Desk(base)
            for goal in BASES:
                for many in (0, 1, 2, 3, 9, 60):
                    row = some_row(luck, base, many)
                    wanted = text_of(figures_of(goal, number_told(base, row)))
                    self.check(desk, f"lead {goal} {text_of(row)}", wanted)
                    self.assertEqual(text_of(led(base, goal, row)), wanted)

    def test_known(self):
        desk = Desk(10)
        self.check(desk, "divide 1.0.0 7", "1.4 2")
        self.check(desk, "divide - 7", "- -")
        self.check(desk, "divide - -", "no divisor")
        self.check(desk, "root 9.9", "9 1.8")
        self.check(desk, "root -", "- -")
        self.check(desk, "root 1.0.0", "1.0 -")
        self.check(desk, "lead 16 2.5.5", "15.15")
        self.check(desk, "lead 1000000 1.0.0.0.0.0.0", "1.0")
        self.check(desk, "lead 2 -", "-")


# A right line of each word, with the kind of each word behind it.
SHAPES = (
    ("plan 1.2", ("plan",)),
    ("best product 3 10 1 1 1 2", ("kind", 64, "price", "price", "price", "price", "price")),
    ("best square 3 10 1 1 1 2", ("kind", 64, "price", "price", "price", "price", "price")),
    ("cost 1 1", (400, 400)),
    ("work 1 1", (24, 24)),
    ("times 1.2 3", ("row", "row")),
    ("square 3", ("row",)),
    ("through 3 2", ("row", "row")),
    ("rests 1.2 3 5", ("row", "modulus", "modulus")),
    ("turn 17 1.2 3", ("prime", "row", "row")),
    ("divide 1.2 3", ("row", "row")),
    ("root 1.2", ("row",)),
    ("lead 16 1.2", ("base", "row")),
)

NEVER = (
    "", "00", "01", "-1", "-0", "+1", "1\n", "\n", "1\n1", "\t1", "x", "1x", "1e3", "1_0", "1,2", "9" * 61, "1" * 5000, "0" * 5000,
    "-" + "1" * 5000, "1..2", ".1", "1.", ".", "--", "1.02", "1.-2", "None", "True", "(1,)", "()", "1." + "1" * 5000, "~", "!", "1.2.x",
    "\u0661", "\uff11",
)
WRONG = {
    "plan": ("-", "0", "2", "1.3", "1.0", "1.2.4", "1.6", "1.1.1.1.1.6"),
    "kind": ("products", "Product", "PRODUCT", "squares", "prod", "1", "0", "-", "productsquare", "through", "times"),
    "row": ("0", "0.1", "10", "1.10", "1.2.11", "0.0", "11", "999999"),
    "price": ("1000001", "9999999", "1.1", "-", "9" * 60),
    "modulus": ("0", "1", "1000000", "1000001", "9" * 60, "3.5", "-"),
    "prime": ("0", "1", "4", "9", "15", "561", "999981", "1000000", "1000003", "998244353", "9" * 60, "1.7", "-", "17.17"),
    "base": ("0", "1", "1000001", "9" * 60, "1.6", "-"),
}


def wrong_words(kind):
    if isinstance(kind, int):
        return NEVER + ("0", str(kind + 1), "999", "1000", "1.1", "-", "9" * 60)
    return NEVER + WRONG[kind]


class NoLines(Lines):
    def test_right_lines(self):
        for line, kinds in SHAPES:
            self.assertIs(type(Desk(10).say(line)), str)
            self.assertEqual(len(line.split(" ")), len(kinds) + 1)

    def test_wrong_words(self):
        for line, kinds in SHAPES:
            told = line.split(" ")
            for at, kind in enumerate(kinds):
                for wrong in wrong_words(kind):
                    self.refuse(" ".join(told[:at + 1] + [wrong] + told[at + 2:]))

    def test_bounds_are_in(self):
        for line in (
            "best product 64 0 0 0 0 0", "best product 1 1000000 1000000 1000000 1000000 1000000", "cost 1 400", "cost 400 1",
            "work 24 1", "work 1 24", "rests 1 2 999999", "turn 2 1 1", "turn 999983 1 1", "lead 2 1", "lead 1000000 1",
            words("rests", "1", *MODULI[:40]),
        ):
            self.assertIs(type(Desk(10).say(line)), str)
        for line in ("cost 401 1", "cost 1 401", "work 25 1", "work 1 25", "best product 65 0 0 0 0 0", words("rests", "1", *MODULI)):
            self.refuse(line)

    def test_too_few_or_too_many(self):
        for line, kinds in SHAPES:
            told = line.split(" ")
            for many in range(1, len(told)):
                if told[0] != "rests" or many < 3:
                    self.refuse(" ".join(told[:many]))
            if told[0] != "rests":
                for more in ("1", "3", "1.2", "-", "x", told[-1]):
                    self.refuse(line + " " + more)
        self.refuse("rests")
        self.refuse("rests 1.2")
        self.refuse("rests 3 5 -")

    def test_blanks_and_line_feeds(self):
        for line, kinds in SHAPES + (("takes work 1 1 * 0 1 : 2", ()),):
            self.refuse(" " + line)
            self.refuse(line + " ")
            self.refuse("\n" + line)
            self.refuse(line + "\n")
            self.refuse(line + "\n" + line)
            for at in range(len(line)):
                if line[at] == " ":
                    # Of rests one word fewer may be right, too.
                    joined = () if line.startswith("rests") else ("", ".")
                    for blanks in ("  ", "\n", "\t", " \n", "\n ") + joined:
                        self.refuse(line[:at] + blanks + line[at + 1:])

    def test_other_words(self):
        for line, kinds in SHAPES:
            told = line.split(" ")
            for other in ("", told[0].upper(), told[0].title(), told[0] + "s", told[0][:-1], "x" + told[0], "say", "add", "-", "1"):
                self.refuse(" ".join([other] + told[1:]))
            self.refuse(" ".join(told[1:]))

    def test_words_of_other_lines(self):
        for line, kinds in SHAPES:
            for other, other_kinds in SHAPES:
                if len(kinds) != len(other_kinds) and "rests" not in (other.split(" ")[0], line.split(" ")[0]):
                    self.refuse(" ".join([line.split(" ")[0]] + other.split(" ")[1:]))

    def test_anything(self):
        desk = with_plan(10, (1, 2))
        things = [thing for thing in flat_things() if not isinstance(thing, str)] + deep_things()
        for thing in things + [0, 1, (), (1,), ("root", "1"), ["root", "1"], ["root 1"], ("root 1",), b"root 1", {"root": "1"}]:
            self.refuse(thing, desk)
        for line in ("", " ", "  ", "\n", ".", "-", "1", "ok", "yes", "no", "too long", "help", "quit", "plan\n1", "plan", "root", "~"):
            self.refuse(line, desk)
        self.assertEqual(self.plan_length(desk), 2)

    def test_other_bases(self):
        self.refuse("root 10")
        self.check(Desk(11), "root 10", "3 1")
        self.refuse("root 2", Desk(2))
        self.check(Desk(10 ** 6), "root 999999", "999 1998")
        self.refuse("root 1000000", Desk(10 ** 6))


if __name__ == "__main__":
    unittest.main()
