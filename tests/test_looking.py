"""What [8] and [9] say of the looker, and [3] (a)."""

import unittest

from partmill.errors import MillError, Unfit
from partmill.looking import forms, shows_product, shows_square
from partmill.strips import product
from partmill.works import is_work, ran
from tests.things import all_whole, chance, deep_things, flat_things, no_numbers, put_at, some_strip

# The product of strips of two numbers with three times.
THREE_TIMES = (2, 2, (
    ("times", 0, 2), ("times", 1, 3), ("plus", 0, 1), ("plus", 2, 3), ("times", 6, 7), ("minus", 8, 4), ("minus", 9, 5),
), (4, 10, 5))
# Cell 0 by 3, the product divided by 3 again.
BY_AND_PART = (1, 1, (("by", 0, 3), ("times", 2, 1), ("part", 3, 3)), (4,))
# A fourth of the square of the sum less the square of the difference.
THROUGH_SQUARES = (1, 1, (
    ("plus", 0, 1), ("minus", 0, 1), ("times", 2, 2), ("times", 3, 3), ("minus", 4, 5), ("part", 6, 4),
), (7,))
# Nought less the product, taken from nought.
FROM_BELOW = (1, 1, (
    ("times", 0, 1), ("by", 2, 0), ("minus", 3, 2), ("minus", 3, 4),
), (5,))
# The product of a strip of two and one of one number, nothing more.
TWO_AND_ONE = (2, 1, (("times", 0, 2), ("times", 2, 1)), (3, 4))
PRODUCTS = (THREE_TIMES, BY_AND_PART, THROUGH_SQUARES, FROM_BELOW, TWO_AND_ONE)

ONE_SQUARE = (1, 0, (("times", 0, 0),), (1,))
TWO_SQUARE = (2, 0, (("times", 0, 0), ("times", 0, 1), ("by", 3, 2), ("times", 1, 1)), (2, 4, 5))
# The middle one as the square of the sum less both squares.
SUM_SQUARE = (2, 0, (
    ("times", 0, 0), ("times", 1, 1), ("plus", 0, 1), ("times", 4, 4), ("minus", 5, 2), ("minus", 6, 3),
), (2, 7, 3))
SQUARES = (ONE_SQUARE, TWO_SQUARE, SUM_SQUARE)


def told_of(n, m, *steps):
    """The forms of the cells that the steps make."""
    return forms((n, m, steps, (0,)))[n + m:]


def some_work(luck, n, m, many):
    """A work of steps by chance, fit or not."""
    steps = []
    for at in range(n + m, n + m + many):
        word = luck.choice(("times", "plus", "plus", "minus", "by", "part"))
        right = luck.randint(-2, 4) if word == "by" else 2 if word == "part" else luck.randrange(at)
        steps.append((word, luck.randrange(at), right))
    return (n, m, tuple(steps), tuple(range(n + m + many)))


def value_of(form, numbers):
    total = 0
    for cells, factor in form:
        for cell in cells:
            factor *= numbers[cell]
        total += factor
    return total


class Forms(unittest.TestCase):
    def refused(self, step, work):
        with self.assertRaises(Unfit) as caught:
            forms(work)
        self.assertEqual(caught.exception.step, step)
        self.assertIs(type(caught.exception.step), int)
        self.assertIs(type(caught.exception), Unfit)
        self.assertIsInstance(caught.exception, MillError)
        self.assertIsInstance(caught.exception, ValueError)

    def test_cells_to_begin_with(self):
        self.assertEqual(forms((1, 0, (), (0,))), ((((0,), 1),),))
        self.assertEqual(forms((2, 1, (), (0,))), ((((0,), 1),), (((1,), 1),), (((2,), 1),)))

    def test_plus_and_minus(self):
        self.assertEqual(told_of(1, 2, ("plus", 2, 0)), ((((0,), 1), ((2,), 1)),))
        self.assertEqual(told_of(1, 2, ("minus", 2, 0)), ((((0,), -1), ((2,), 1)),))
        self.assertEqual(told_of(1, 2, ("plus", 2, 2)), ((((2,), 2),),))
        self.assertEqual(told_of(1, 2, ("plus", 0, 1), ("minus", 3, 0)), ((((0,), 1), ((1,), 1)), (((1,), 1),)))

    def test_by_and_part(self):
        self.assertEqual(
            told_of(1, 1, ("by", 0, 6), ("by", 1, -4), ("plus", 2, 3), ("part", 4, 2)),
            ((((0,), 6),), (((1,), -4),), (((0,), 6), ((1,), -4)), (((0,), 3), ((1,), -2))),
        )
        self.assertEqual(told_of(1, 0, ("by", 0, 1)), ((((0,), 1),),))

    def test_times(self):
        self.assertEqual(told_of(2, 1, ("times", 2, 0)), ((((0, 2), 1),),))
        self.assertEqual(told_of(2, 1, ("times", 0, 2)), ((((0, 2), 1),),))
        self.assertEqual(told_of(2, 1, ("times", 1, 1)), ((((1, 1), 1),),))
        self.assertEqual(
            told_of(2, 0, ("plus", 0, 1), ("times", 2, 2))[-1], (((0, 0), 1), ((0, 1), 2), ((1, 1), 1)),
        )
        self.assertEqual(
            told_of(2, 0, ("plus", 0, 1), ("minus", 0, 1), ("times", 2, 3))[-1], (((0, 0), 1), ((1, 1), -1)),
        )
        self.assertEqual(
            told_of(2, 1, ("by", 1, 3), ("plus", 3, 0), ("by", 2, -2), ("times", 5, 4))[-1], (((0, 2), -2), ((1, 2), -6)),
        )

    def test_second_degree(self):
        steps = (("times", 0, 0), ("times", 0, 1), ("plus", 3, 2), ("minus", 2, 3), ("by", 4, 5), ("part", 6, 5))
        self.assertEqual(told_of(2, 0, *steps), (
            (((0, 0), 1),), (((0, 1), 1),), (((0, 0), 1), ((0, 1), 1)), (((0, 0), 1), ((0, 1), -1)),
            (((0, 0), 5), ((0, 1), 5)), (((0, 0), 1), ((0, 1), 1)),
        ))

    def test_rising(self):
        told = told_of(11, 1, ("plus", 11, 0), ("plus", 12, 10), ("plus", 13, 2), ("times", 14, 14))
        self.assertEqual(told[2], (((0,), 1), ((2,), 1), ((10,), 1), ((11,), 1)))
        self.assertEqual([cells for cells, number in told[3]], [
            (0, 0), (0, 2), (0, 10), (0, 11), (2, 2), (2, 10), (2, 11), (10, 10), (10, 11), (11, 11),
        ])

    def test_noughts_are_left_out(self):
        self.assertEqual(told_of(2, 0, ("minus", 0, 0)), ((),))
        self.assertEqual(told_of(2, 0, ("by", 0, 0)), ((),))
        self.assertEqual(told_of(2, 0, ("by", 0, 0), ("part", 2, 7), ("times", 3, 1)), ((), (), ()))
        self.assertEqual(told_of(2, 0, ("by", 0, 0), ("plus", 2, 1)), ((), (((1,), 1),)))
        self.assertEqual(told_of(2, 0, ("times", 0, 1), ("minus", 2, 2), ("plus", 3, 2)), ((((0, 1), 1),), (), (((0, 1), 1),)))

    def test_noughts_have_their_degree(self):
        first = (("by", 0, 0), ("times", 0, 1))
        second = (("times", 0, 1), ("by", 2, 0))
        for word in ("plus", "minus"):
            self.refused(2, (2, 0, first + ((word, 2, 3),), (0,)))
            self.refused(2, (2, 0, first + ((word, 3, 2),), (0,)))
            self.refused(2, (2, 0, second + ((word, 3, 0),), (0,)))
            self.refused(2, (2, 0, second + ((word, 0, 3),), (0,)))
            self.assertEqual(told_of(2, 0, *second, (word, 2, 3))[-1], (((0, 1), 1),))
        self.refused(2, (2, 0, second + (("times", 3, 0),), (0,)))
        self.refused(2, (2, 0, second + (("times", 0, 3),), (0,)))
        self.assertEqual(told_of(2, 0, ("minus", 0, 0), ("times", 2, 2))[-1], ())
        self.refused(3, (2, 0, (("minus", 0, 0), ("times", 2, 2), ("by", 3, 4), ("plus", 4, 2)), (0,)))
        self.refused(2, (2, 0, (("times", 0, 1), ("minus", 2, 2), ("times", 3, 0)), (0,)))

    def test_unfit_times(self):
        self.refused(1, (1, 1, (("times", 0, 1), ("times", 2, 0)), (0,)))
        self.refused(1, (1, 1, (("times", 0, 1), ("times", 0, 2)), (0,)))
        self.refused(1, (1, 1, (("times", 0, 1), ("times", 2, 2)), (0,)))

    def test_unfit_plus_and_minus(self):
        for word in ("plus", "minus"):
            self.refused(2, (1, 1, (("times", 0, 1), ("by", 0, 2), (word, 2, 0)), (0,)))
            self.refused(2, (1, 1, (("times", 0, 1), ("by", 0, 2), (word, 3, 2)), (0,)))

    def test_unfit_part(self):
        self.refused(0, (1, 0, (("part", 0, 2),), (0,)))
        self.refused(2, (2, 0, (("by", 0, 4), ("plus", 2, 1), ("part", 3, 2)), (0,)))
        self.refused(2, (2, 0, (("by", 1, 4), ("plus", 2, 0), ("part", 3, 2)), (0,)))
        self.refused(1, (2, 0, (("by", 1, -6), ("part", 2, 4)), (0,)))
        self.refused(2, (2, 0, (("times", 0, 1), ("by", 2, 3), ("part", 3, 2)), (0,)))

    def test_the_first_unfit_step(self):
        self.refused(1, (1, 1, (("times", 0, 1), ("part", 2, 2), ("times", 2, 2)), (0,)))
        self.refused(1, (1, 1, (("times", 0, 1), ("plus", 2, 0), ("part", 0, 2)), (0,)))

    def test_forms_tell_what_runs(self):
        luck = chance(9)
        fit = 0
        for unused in range(400):
            n, m = luck.randint(1, 3), luck.randint(0, 2)
            work = some_work(luck, n, m, luck.randint(1, 9))
            one, other = some_strip(luck, n), some_strip(luck, m)
            try:
                told = forms(work)
            except Unfit:
                continue
            fit += 1
            self.assertEqual(ran(work, one, other), tuple(value_of(form, one + other) for form in told))
        self.assertGreater(fit, 50)

    def test_asked_again(self):
        for work in PRODUCTS + SQUARES:
            told = forms(work)
            self.assertTrue(all_whole(told))
            self.assertEqual(len(told), work[0] + work[1] + len(work[2]))
            self.assertEqual(told, forms(work))


class ShowsProduct(unittest.TestCase):
    def test_right_works(self):
        luck = chance(11)
        for work in PRODUCTS:
            with self.subTest(work=work):
                self.assertIs(shows_product(work), True)
                self.assertIs(shows_product(work), True)
                one, other = some_strip(luck, work[0], 60), some_strip(luck, work[1], 60)
                self.assertEqual(ran(work, one, other), product(one, other))

    def test_outs_exchanged(self):
        n, m, steps, outs = THREE_TIMES
        for wrong in ((10, 4, 5), (5, 10, 4), (4, 4, 5), (4, 9, 5), (4, 10, 0), (4, 8, 5)):
            self.assertIs(shows_product((n, m, steps, wrong)), False)

    def test_too_few_or_too_many_outs(self):
        for work in PRODUCTS:
            self.assertIs(shows_product(put_at(work, 3, work[3] + work[3][-1:])), False)
            self.assertIs(shows_product(put_at(work, 3, work[3][:-1])), False)
            self.assertIs(shows_product(put_at(work, 3, work[3][:1] + work[3])), False)

    def test_steps_otherwise(self):
        n, m, steps, outs = THREE_TIMES
        for at, step in (
            (0, ("times", 0, 3)), (1, ("times", 1, 2)), (2, ("minus", 0, 1)), (3, ("plus", 2, 2)), (3, ("minus", 2, 3)),
            (4, ("times", 6, 3)), (5, ("plus", 8, 4)), (6, ("minus", 5, 9)), (6, ("minus", 9, 4)), (6, ("by", 9, 1)),
        ):
            wrong = (n, m, put_at(steps, at, step), outs)
            self.assertIs(is_work(wrong), True)
            self.assertIs(shows_product(wrong), False)

    def test_factors_otherwise(self):
        for factor in (0, 1, -3, 4, 6):
            self.assertIs(shows_product(put_at(BY_AND_PART, 2, put_at(BY_AND_PART[2], 0, ("by", 0, factor)))), False)
        for divisor in (2, 4, 9):
            self.assertIs(shows_product(put_at(BY_AND_PART, 2, put_at(BY_AND_PART[2], 2, ("part", 3, divisor)))), False)
        self.assertIs(shows_product((1, 1, (("times", 0, 1), ("by", 2, 2)), (3,))), False)
        self.assertIs(shows_product((1, 1, (("times", 0, 1), ("by", 2, -1)), (3,))), False)

    def test_products_of_one_strip_alone(self):
        self.assertIs(shows_product((1, 1, (("times", 0, 0),), (2,))), False)
        self.assertIs(shows_product((1, 1, (("times", 1, 1),), (2,))), False)
        self.assertIs(shows_product((2, 1, (("times", 0, 1), ("times", 1, 2)), (3, 4))), False)

    def test_unfit_though_its_outs_are_right(self):
        for n, m, steps, outs in PRODUCTS:
            for step in (("part", 0, 2), ("times", outs[0], 0), ("plus", outs[0], 0), ("minus", 0, outs[0])):
                wrong = (n, m, steps + (step,), outs)
                self.assertIs(is_work(wrong), True)
                self.assertIs(shows_product(wrong), False)
        # The first part goes out even only where the second step makes up for it.
        self.assertIs(shows_product((1, 1, (("times", 0, 1), ("part", 2, 3), ("by", 3, 3)), (4,))), False)

    def test_first_degree_outs(self):
        self.assertIs(shows_product((1, 1, (), (0,))), False)
        self.assertIs(shows_product((1, 1, (("by", 0, 0),), (2,))), False)
        self.assertIs(shows_product((1, 1, (("times", 0, 1), ("by", 2, 0)), (3,))), False)

    def test_no_second_strip(self):
        for work in SQUARES:
            self.assertIs(shows_product(work), False)
        self.assertIs(shows_product((2, 0, (("times", 0, 1),), (2,))), False)
        # As many outs as n + m - 1, and each nought in the second degree: there is still no product.
        self.assertIs(shows_product((2, 0, (("times", 0, 1), ("by", 2, 0)), (3,))), False)

    def test_anything(self):
        no_works(self, shows_product, THREE_TIMES)


class ShowsSquare(unittest.TestCase):
    def test_right_works(self):
        luck = chance(12)
        for work in SQUARES:
            with self.subTest(work=work):
                self.assertIs(shows_square(work), True)
                self.assertIs(shows_square(work), True)
                one = some_strip(luck, work[0], 60)
                self.assertEqual(ran(work, one, ()), product(one, one))

    def test_ways_about(self):
        by_and_part = (1, 0, (("by", 0, 3), ("times", 0, 1), ("part", 2, 3)), (3,))
        self.assertIs(shows_square(by_and_part), True)
        from_below = (1, 0, (("minus", 0, 0), ("minus", 1, 0), ("times", 2, 2)), (3,))
        self.assertIs(shows_square(from_below), True)

    def test_outs_exchanged(self):
        n, m, steps, outs = TWO_SQUARE
        for wrong in ((5, 4, 2), (4, 2, 5), (2, 3, 5), (2, 4, 4), (0, 4, 5)):
            self.assertIs(shows_square((n, m, steps, wrong)), False)

    def test_too_few_or_too_many_outs(self):
        for work in SQUARES:
            self.assertIs(shows_square(put_at(work, 3, work[3] + work[3][-1:])), False)
            self.assertIs(shows_square(put_at(work, 3, work[3][:-1])), False)

    def test_steps_otherwise(self):
        n, m, steps, outs = TWO_SQUARE
        for at, step in (
            (0, ("times", 0, 1)), (1, ("times", 0, 0)), (1, ("plus", 0, 1)), (2, ("by", 3, 1)), (2, ("by", 3, 3)),
            (2, ("by", 2, 2)), (2, ("part", 3, 2)), (3, ("times", 1, 0)), (3, ("by", 2, 1)),
        ):
            wrong = (n, m, put_at(steps, at, step), outs)
            self.assertIs(is_work(wrong), True)
            self.assertIs(shows_square(wrong), False)

    def test_like_cells_doubled(self):
        self.assertIs(shows_square((1, 0, (("times", 0, 0), ("by", 1, 2)), (2,))), False)

    def test_unfit_though_its_outs_are_right(self):
        for n, m, steps, outs in SQUARES:
            for step in (("part", 0, 2), ("times", outs[0], 0), ("plus", outs[0], 0)):
                self.assertIs(shows_square((n, m, steps + (step,), outs)), False)

    def test_a_second_strip(self):
        for work in PRODUCTS:
            self.assertIs(shows_square(work), False)
        for n, m, steps, outs in SQUARES:
            moved_on = tuple((word, left + (left >= n), right + (right >= n and word != "by")) for word, left, right in steps)
            wrong = (n, 1, moved_on, tuple(out + 1 for out in outs))
            self.assertIs(is_work(wrong), True)
            self.assertIs(shows_square(wrong), False)

    def test_anything(self):
        no_works(self, shows_square, TWO_SQUARE)


def no_works(case, shows, work):
    """Whatever is no work is not taken."""
    n, m, steps, outs = work
    case.assertIs(shows(work), True)
    for thing in flat_things() + deep_things() + [0, 1, (), (1,), work[:3], work + (0,), work + ((),), list(work)]:
        case.assertIs(shows(thing), False)
    for thing in no_numbers():
        for at in range(4):
            case.assertIs(shows(put_at(work, at, thing)), False)
        case.assertIs(shows((n, m, put_at(steps, 0, thing), outs)), False)
        case.assertIs(shows((n, m, steps, put_at(outs, 0, thing))), False)
        for at in (1, 2):
            case.assertIs(shows((n, m, put_at(steps, 0, put_at(steps[0], at, thing)), outs)), False)
    behind = n + m + len(steps)
    for step in (
        ("plus", behind, 0), ("plus", 0, behind), ("plus", -1, 0), ("plus", True, 0), ("part", 0, 1), ("part", 0, 0),
        ("part", 0, -2), ("by", 0, True), ("by", 0, None), ("add", 0, 0), ("plus", 0), ("plus", 0, 0, 0), ["plus", 0, 0], (),
    ):
        case.assertIs(shows((n, m, steps + (step,), outs)), False)
    case.assertIs(shows((n, m, list(steps), outs)), False)
    case.assertIs(shows((n, m, steps, list(outs))), False)
    case.assertIs(shows((n, m, steps, ())), False)
    case.assertIs(shows((n, m, steps, put_at(outs, 0, behind))), False)
    case.assertIs(shows((n, m, steps, put_at(outs, 0, -1))), False)
    for wrong in (0, -1, -n, True, 10 ** 30):
        case.assertIs(shows((wrong, m, steps, outs)), False)
    for wrong in (-1, True, False, 10 ** 30):
        case.assertIs(shows((n, wrong, steps, outs)), False)


class NeverRefused(unittest.TestCase):
    """[3] (a): what the looker takes gives the product, whoever made it."""

    def test_works_by_chance(self):
        luck = chance(3)
        taken = 0
        for unused in range(3000):
            n, m, steps, outs = some_work(luck, 1, 1, luck.randint(1, 5))
            for out in outs:
                work = (n, m, steps, (out,))
                if shows_product(work):
                    taken += 1
                    for one, other in ((0, 0), (1, 1), (-1, 1), (7, -3), (luck.randrange(10 ** 60), -luck.randrange(10 ** 60))):
                        self.assertEqual(ran(work, (one,), (other,)), (one * other,))
        self.assertGreater(taken, 20)


if __name__ == "__main__":
    unittest.main()
