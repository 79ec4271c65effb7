"""What [2] and the interface say of refusals."""

import unittest

from partmill.errors import (
    Below, MillError, NoDivisor, NoLine, NoRoot, NoText, Shared, TooGreat, Uneven, Unfit,
)

WITH_TEXT = (Below, NoDivisor, NoRoot, TooGreat, NoText, NoLine)
WITH_STEP = (Uneven, Unfit)
ALL = WITH_TEXT + WITH_STEP + (Shared,)


class Refusals(unittest.TestCase):
    def test_each_is_straight_under_mill_error(self):
        self.assertEqual(MillError.__bases__, (ValueError,))
        for kind in ALL:
            with self.subTest(kind.__name__):
                self.assertEqual(kind.__bases__, (MillError,))

    def test_made_with_a_text(self):
        for kind in WITH_TEXT:
            with self.subTest(kind.__name__):
                self.assertEqual(str(kind("a text")), "a text")

    def test_made_with_a_step(self):
        for kind in WITH_STEP:
            for step in (0, 5, 5999):
                with self.subTest(kind.__name__, step=step):
                    self.assertEqual(kind(step).step, step)
                    self.assertEqual(kind(step=step).step, step)
                    self.assertIn(str(step), str(kind(step)))

    def test_made_with_a_pair(self):
        refusal = Shared(3, 8)
        self.assertEqual((refusal.first, refusal.second), (3, 8))
        refusal = Shared(second=3, first=0)
        self.assertEqual((refusal.first, refusal.second), (0, 3))


if __name__ == "__main__":
    unittest.main()
