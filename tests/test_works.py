"""What [6] and [7] say of works."""

import unittest

from partmill.errors import MillError, Uneven
from partmill.works import counted, is_work, ran
from tests.things import all_whole, chance, deep_things, flat_things, no_numbers, put_at, some_strip

EACH_WORD = (("times", 0, 1), ("plus", 2, 0), ("minus", 1, 3), ("by", 4, -6), ("part", 5, 2))
WORKS = (
    (1, 0, (), (0,)),
    (1, 1, (), (0, 1, 0)),
    (3, 0, (), (2,)),
    (1, 1, (("times", 0, 1),), (2,)),
    (2, 0, (("times", 0, 0), ("times", 0, 1), ("by", 3, 2), ("times", 1, 1)), (2, 4, 5)),
    (1, 1, EACH_WORD, (6, 0, 3)),
    (2, 0, EACH_WORD, (6, 6)),
    (1, 0, (("by", 0, 0),), (1,)),
    (1, 0, (("by", 0, -10 ** 60), ("part", 1, 10 ** 60)), (1,)),
)


def with_step(step, n=1, m=1):
    """What would be a work if its second step were one."""
    return (n, m, (("plus", 0, 1), step), (0,))


class IsWork(unittest.TestCase):
    def no_work(self, thing):
        self.assertIs(is_work(thing), False)

    def test_works(self):
        for work in WORKS:
            with self.subTest(work=work):
                self.assertIs(is_work(work), True)

    def test_each_word_alone(self):
        for word in ("times", "plus", "minus"):
            for left in range(3):
                for right in range(3):
                    self.assertIs(is_work(with_step((word, left, right))), True)
        for left in range(3):
            for factor in (0, 1, -1, 2, -10 ** 30, 10 ** 30):
                self.assertIs(is_work(with_step(("by", left, factor))), True)
            for divisor in (2, 3, 10 ** 30):
                self.assertIs(is_work(with_step(("part", left, divisor))), True)

    def test_cells_not_ahead(self):
        for wrong in (3, 4, 100, -1, -2, 10 ** 30, True, False):
            for word in ("times", "plus", "minus"):
                self.no_work(with_step((word, wrong, 0)))
                self.no_work(with_step((word, 0, wrong)))
            self.no_work(with_step(("by", wrong, 5)))
            self.no_work(with_step(("part", wrong, 5)))

    def test_first_step_sees_only_the_strips(self):
        self.assertIs(is_work((2, 1, (("plus", 2, 2),), (0,))), True)
        self.no_work((2, 1, (("plus", 3, 2),), (0,)))
        self.no_work((2, 1, (("plus", 2, 3),), (0,)))

    def test_parts_and_factors(self):
        for wrong in (1, 0, -1, -2, True, False):
            self.no_work(with_step(("part", 0, wrong)))
        for wrong in (True, False):
            self.no_work(with_step(("by", 0, wrong)))

    def test_sizes(self):
        for n in (0, -1, True, False):
            self.no_work((n, 3, (), (0,)))
        for m in (-1, -3, True, False):
            self.no_work((3, m, (), (0,)))

    def test_outs(self):
        for outs in ((), (2,), (0, 2), (-1,), (0, -1, 1), (True,), (False,), (0, False), [0], [], 0, None, "0", {0: 0}):
            self.no_work((1, 1, (), outs))
        self.no_work((1, 1, (("plus", 0, 1),), (3,)))
        self.no_work((1, 1, (("plus", 0, 1),), (2, 1, 3)))
        self.assertIs(is_work((1, 1, (("plus", 0, 1),), (2, 1, 0))), True)

    def test_other_words(self):
        for word in ("", "Times", "time", "add", "PLUS", "plus ", "x", "/", 0, 1, None, True, b"plus", ("plus",), ["by"]):
            self.no_work(with_step((word, 0, 1)))
            self.no_work(with_step((word, 0, 2)))

    def test_steps_of_other_lengths(self):
        for step in ((), ("plus",), ("plus", 0), ("plus", 0, 1, 1), ("by", 0), ("part", 0, 2, 2)):
            self.no_work(with_step(step))

    def test_lists_for_tuples(self):
        self.no_work(list(WORKS[3]))
        self.no_work((1, 1, [("times", 0, 1)], (2,)))
        self.no_work((1, 1, [], (0,)))
        self.no_work((1, 1, (["times", 0, 1],), (2,)))
        self.no_work((1, 1, (("times", 0, 1),), [2]))

    def test_other_numbers_of_things(self):
        for work in WORKS:
            self.no_work(work[:3])
            self.no_work(work[1:])
            self.no_work(work + ((),))
            self.no_work(work + (0,))
        self.no_work(())

    def test_anything_in_any_place(self):
        work = (2, 1, EACH_WORD, (7, 2))
        self.assertIs(is_work(work), True)
        for thing in no_numbers():
            for at in (0, 1):
                self.no_work(put_at(work, at, thing))
            for at in (0, 1):
                self.no_work(put_at(work, 3, put_at(work[3], at, thing)))
            for at, step in enumerate(EACH_WORD):
                self.no_work(put_at(work, 2, put_at(EACH_WORD, at, thing)))
                for place in (1, 2):
                    self.no_work(put_at(work, 2, put_at(EACH_WORD, at, put_at(step, place, thing))))
                if not isinstance(thing, str):
                    self.no_work(put_at(work, 2, put_at(EACH_WORD, at, put_at(step, 0, thing))))
        for thing in flat_things() + deep_things() + [0, 1, 5]:
            self.no_work(put_at(work, 2, thing))
            self.no_work(put_at(work, 3, thing))

    def test_anything(self):
        for thing in flat_things() + deep_things() + [0, 1, (), (1,), (1, 0, (), ()), "work"]:
            self.no_work(thing)


class Ran(unittest.TestCase):
    def test_each_word(self):
        for one in (-7, -1, 0, 1, 12):
            for other in (-5, 0, 3):
                for step, wanted in (
                    (("times", 0, 1), one * other), (("plus", 0, 1), one + other), (("minus", 0, 1), one - other),
                    (("minus", 1, 0), other - one), (("by", 0, 4), 4 * one), (("by", 1, -4), -4 * other),
                    (("by", 0, 0), 0),
                ):
                    with self.subTest(step=step, one=one, other=other):
                        self.assertEqual(ran((1, 1, (step,), (2,)), (one,), (other,)), (wanted,))

    def test_part(self):
        for quotient in (-9, -1, 0, 1, 10 ** 59):
            for divisor in (2, 3, 7):
                work = (1, 0, (("part", 0, divisor),), (1,))
                self.assertEqual(ran(work, (quotient * divisor,), ()), (quotient,))

    def test_cells_in_order(self):
        work = (2, 3, (("minus", 1, 2), ("times", 5, 4)), (0, 1, 2, 3, 4, 5, 6))
        self.assertEqual(ran(work, (10, 20), (3, 4, 5)), (10, 20, 3, 4, 5, 17, 85))

    def test_outs_in_any_order_and_again(self):
        work = (2, 0, (("plus", 0, 1),), (2, 0, 2, 1, 1))
        self.assertEqual(ran(work, (4, -6), ()), (-2, 4, -2, -6, -6))

    def test_no_steps(self):
        self.assertEqual(ran((3, 0, (), (2, 0)), (7, 8, 9), ()), (9, 7))
        self.assertEqual(ran((1, 2, (), (2, 0)), (7,), (8, 9)), (9, 7))

    def test_a_way_about(self):
        work = (1, 1, (("plus", 0, 1), ("minus", 0, 1), ("times", 2, 2), ("times", 3, 3), ("minus", 4, 5), ("part", 6, 4)), (7,))
        luck = chance(7)
        for unused in range(50):
            one, other = some_strip(luck, 1, 60), some_strip(luck, 1, 60)
            self.assertEqual(ran(work, one, other), (one[0] * other[0],))

    def test_uneven(self):
        work = (1, 1, (("plus", 0, 1), ("part", 0, 3), ("part", 1, 2), ("part", 2, 5)), (3, 4, 5))
        for one, other, step in (
            (1, 0, 1), (-1, 0, 1), (2, 1, 1), (-2, 3, 1), (3, 1, 2), (-3, -1, 2), (0, 3, 2), (3, 2 * 2, 3), (-3, 2, 3),
        ):
            with self.subTest(one=one, other=other):
                with self.assertRaises(Uneven) as caught:
                    ran(work, (one,), (other,))
                self.assertEqual(caught.exception.step, step)
                self.assertIs(type(caught.exception.step), int)
                self.assertIs(type(caught.exception), Uneven)
                self.assertIsInstance(caught.exception, MillError)
                self.assertIsInstance(caught.exception, ValueError)
        for one, other in ((0, 0), (3, 2), (-3, -2), (6, 4), (9, -4), (-9, 4)):
            self.assertEqual(ran(work, (one,), (other,)), (one // 3, other // 2, (one + other) // 5))

    def test_uneven_at_the_very_first_step(self):
        with self.assertRaises(Uneven) as caught:
            ran((1, 0, (("part", 0, 2), ("part", 0, 2)), (0,)), (-5,), ())
        self.assertEqual(caught.exception.step, 0)

    def test_uneven_though_no_out_asks_for_it(self):
        with self.assertRaises(Uneven):
            ran((1, 0, (("part", 0, 2),), (0,)), (5,), ())

    def test_asked_again(self):
        work, one = (2, 0, EACH_WORD, (6, 6)), (4, -6)
        told = ran(work, one, ())
        self.assertEqual(told, ran(work, one, ()))
        self.assertTrue(all_whole(told))
        self.assertEqual((work, one), ((2, 0, EACH_WORD, (6, 6)), (4, -6)))


class Counted(unittest.TestCase):
    def test_each_word(self):
        words = ("times", "plus", "minus", "by", "part")
        for at, word in enumerate(words):
            wanted = tuple(3 if at == place else 0 for place in range(5))
            self.assertEqual(counted((3, 0, ((word, 0, 2),) * 3, (0,))), wanted)

    def test_no_steps(self):
        self.assertEqual(counted((1, 0, (), (0,))), (0, 0, 0, 0, 0))

    def test_unlike_numbers(self):
        steps = ()
        for many, word in ((5, "times"), (4, "plus"), (3, "minus"), (2, "by"), (1, "part")):
            steps = steps + ((word, 0, 2),) * many
        told = counted((2, 1, steps[::-1], (0,)))
        self.assertEqual(told, (5, 4, 3, 2, 1))
        self.assertTrue(all_whole(told))
        self.assertEqual(told, counted((2, 1, steps, (0,))))


if __name__ == "__main__":
    unittest.main()
