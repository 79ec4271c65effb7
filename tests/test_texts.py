"""What [29] says of texts, and [3] (i) of them."""

import itertools
import re
import unittest

from partmill.allways import all_products, all_squares
from partmill.errors import NoText
from partmill.parting import square_of, through_squares, work_of
from partmill.texts import read_plan, read_row, read_work, show_plan, show_row, show_work
from partmill.turnworks import turn_work
from partmill.works import is_work
from tests.reckoned import may_be_cut, some_plan
from tests.things import all_whole, chance, deep_things, flat_things, refused, some_row, told_parts

BASES = (2, 3, 10, 16, 1000, 10 ** 6)
NUMBER = r"(?:0|[1-9][0-9]{0,59})"
NUMBERS = re.compile(rf"{NUMBER}(?:\.{NUMBER})*")
SIGNS = {"plus": "+", "minus": "-", "times": "*", "by": "x", "part": "/"}
GREAT = 10 ** 60 - 1


def no_texts():
    """Things that are no texts, and texts that are nothing."""
    return [thing for thing in flat_things() if not isinstance(thing, str)] + deep_things() + [
        0, 1, 7, -1, (), (1,), (1, 2), [1, 2], ("1",), ["1", "2"], b"1", b"1.2", b"-", b"work 1 0 : 0", {"1": 1}, {"1"},
        "", " ", "  ", "\n", ".", "..", " .", "--", "- -", "a", "A", "one", "~", "!", "work", "None", "True", "()", "(1,)",
    ]


def wrong_numbers():
    """What is no number from 0, just so written."""
    return [
        "", " ", "00", "01", "007", "-0", "-1", "+1", "+0", "--1", "1-", "1 ", " 1", "1\n", "\n1", "1_0", "1e3", "0x1", "1,0",
        "1'0", "x", "1x", "10" * 31, "1" + "0" * 60, "9" * 61, "1" * 5000, "0" * 5000, "-" + "1" * 5000, "0" + "1" * 59,
        "\t1", "1.0.", "(1)", "*", "/", ":", "#", "~", "1:", "1/1", "\u0661", "\u00b2", "\uff11",
    ]


def reckoned_row(base, text):
    """The row that is just so written, or None."""
    if text == "-":
        return ()
    if not NUMBERS.fullmatch(text):
        return None
    row = tuple(int(word) for word in reversed(text.split(".")))
    return row if max(row) < base and row[-1] > 0 else None


def reckoned_plan(text):
    """The plan that is just so written, or None."""
    if not NUMBERS.fullmatch(text):
        return None
    plan = tuple(int(word) for word in text.split("."))
    return plan if all(way == 1 or may_be_cut(at + 1, way) for at, way in enumerate(plan)) else None


def written_work(work):
    text = f"work {work[0]} {work[1]}"
    for word, left, right in work[2]:
        text += f" {SIGNS[word]} {left} {right}"
    return text + " :" + "".join(f" {out}" for out in work[3])


class RowTexts(unittest.TestCase):
    def test_there_and_back(self):
        luck = chance(2900)
        for base in BASES:
            for many in (0, 1, 2, 3, 10, 60, 400):
                for row in (some_row(luck, base, many), (base - 1,) * many):
                    text = show_row(row)
                    wanted = "-" if not row else ".".join(str(figure) for figure in reversed(row))
                    self.assertIs(type(text), str)
                    self.assertEqual(text, wanted)
                    self.assertEqual(read_row(base, text), row)
                    self.assertTrue(all_whole(read_row(base, text)))

    def test_known(self):
        for base, row, text in (
            (10, (), "-"), (2, (), "-"), (10, (7,), "7"), (10, (3, 2, 1), "1.2.3"), (10, (0, 0, 1), "1.0.0"),
            (10 ** 6, (999999, 0, 123456), "123456.0.999999"), (2, (1, 0, 1), "1.0.1"), (16, (0, 15), "15.0"),
        ):
            self.assertEqual(show_row(row), text)
            self.assertEqual(read_row(base, text), row)

    def test_all_short_texts(self):
        for base in (2, 3, 10, 11, 1000):
            for many in range(5):
                for signs in itertools.product("012.- ", repeat=many):
                    text = "".join(signs)
                    wanted = reckoned_row(base, text)
                    if wanted is None:
                        refused(self, NoText, read_row, base, text)
                    else:
                        self.assertEqual(read_row(base, text), wanted)

    def test_no_rows_of_the_base(self):
        for base in BASES:
            for text in ("0", "0.0", "0.1", "0.0.1", f"{base}", f"1.{base}", f"{base}.0", f"1.0.{base + 1}", f"1.{GREAT}.1"):
                refused(self, NoText, read_row, base, text)
            self.assertEqual(read_row(base, f"{base - 1}.0"), (0, base - 1))

    def test_wrong_numbers(self):
        for base in (2, 10, 10 ** 6):
            for wrong in wrong_numbers():
                for text in (wrong, f"1.{wrong}", f"{wrong}.1", f"1.{wrong}.1"):
                    refused(self, NoText, read_row, base, text)

    def test_points_and_signs(self):
        for text in (
            ".1", "1.", "1..1", "..", "1. 1", "1 .1", "1 1", "1.1 ", " 1.1", "1.1\n", "1\n.1", "-.1", "1.-", "-.-", "- ", " -",
            "-\n", "--", "-1", "-0", "1,1", "1;1", "1.1.", "1.1..", ".1.1", "1." * 400, "1." * 5000, "." * 5000,
        ):
            refused(self, NoText, read_row, 10, text)

    def test_each_sign(self):
        for sign in map(chr, [10, *range(32, 127)]):
            for text in (sign, f"1{sign}", f"{sign}1", f"1{sign}1", f"1.{sign}", f"1.1{sign}.1"):
                wanted = reckoned_row(1000, text)
                if wanted is None:
                    refused(self, NoText, read_row, 1000, text)
                else:
                    self.assertEqual(read_row(1000, text), wanted)
                    self.assertIn(sign, "0123456789.-")
            if not sign.isdigit():
                refused(self, NoText, read_work, f"work 1{sign} 0 : 0")
                refused(self, NoText, read_plan, f"1.1{sign}")

    def test_anything(self):
        for thing in no_texts():
            refused(self, NoText, read_row, 10, thing)


class PlanTexts(unittest.TestCase):
    def test_there_and_back(self):
        luck = chance(2901)
        for many in (1, 2, 3, 5, 10, 64):
            for unused in range(10):
                plan = some_plan(luck, many)
                text = show_plan(plan)
                self.assertIs(type(text), str)
                self.assertEqual(text, ".".join(str(way) for way in plan))
                self.assertEqual(read_plan(text), plan)
                self.assertTrue(all_whole(read_plan(text)))

    def test_known(self):
        self.assertEqual(show_plan((1,)), "1")
        self.assertEqual(show_plan((1, 2, 3, 1, 5)), "1.2.3.1.5")
        self.assertEqual(read_plan("1.2.3.1.5"), (1, 2, 3, 1, 5))

    def test_all_short_texts(self):
        for many in range(6):
            for signs in itertools.product("0123.", repeat=many):
                text = "".join(signs)
                wanted = reckoned_plan(text)
                if wanted is None:
                    refused(self, NoText, read_plan, text)
                else:
                    self.assertEqual(read_plan(text), wanted)

    def test_no_plans(self):
        for text in (
            "-", "0", "2", "5", "1.3", "1.0", "1.2.4", "1.2.3.3", "1.2.2.5", "1.1.1.1.1.6", "1.1.1.1.1.7", "6", "1.-2", "1.2.-1",
            f"{GREAT}", f"1.{GREAT}", "1.2.", ".1", "1..2", "1 2", "1. 2", "1.2\n", " 1.2", "1.2 ", "1,2", "1.2.x",
        ):
            refused(self, NoText, read_plan, text)

    def test_wrong_numbers(self):
        for wrong in wrong_numbers():
            for text in (wrong, f"1.{wrong}", f"{wrong}.1", f"1.{wrong}.1"):
                refused(self, NoText, read_plan, text)

    def test_anything(self):
        for thing in no_texts():
            refused(self, NoText, read_plan, thing)


EACH_WORD = (("times", 0, 1), ("plus", 2, 0), ("minus", 1, 3), ("by", 4, -6), ("part", 5, 2))
WORKS = (
    (1, 0, (), (0,)), (1, 1, (), (0, 1, 0)), (2, 1, EACH_WORD, (7, 0, 7)), (1, 0, (("by", 0, 0),), (1,)),
    (1, 0, (("by", 0, GREAT), ("by", 0, -GREAT), ("part", 0, GREAT)), (3, 2)), (GREAT, GREAT, (("plus", 0, GREAT),), (7, GREAT)),
    (10, 20, (("by", 29, 1), ("by", 30, -1)), (31, 10)), all_products(3, 4), all_squares(5), turn_work(7, 3, 6),
    work_of((1, 2, 3), 3, 3), square_of((1, 2, 2, 4), 4), through_squares((1, 2), 2), work_of((1,) * 24, 24, 24),
)


class WorkTexts(unittest.TestCase):
    def check(self, work):
        text = show_work(work)
        self.assertIs(type(text), str)
        self.assertEqual(text, written_work(work))
        self.assertEqual(read_work(text), work)
        self.assertTrue(all_whole(told_parts(read_work(text))))
        return text

    def test_there_and_back(self):
        for work in WORKS:
            self.assertIs(is_work(work), True)
            self.check(work)

    def test_by_chance(self):
        luck = chance(2902)
        for unused in range(200):
            n, m = luck.randint(1, 12), luck.randint(0, 12)
            steps = []
            for at in range(n + m, n + m + luck.randint(0, 20)):
                word = luck.choice(tuple(SIGNS))
                right = luck.randrange(at)
                if word == "by":
                    right = luck.choice((0, 1, -1, GREAT, -GREAT, luck.randint(-GREAT, GREAT), luck.randint(-99, 99)))
                if word == "part":
                    right = luck.choice((2, 3, 10, GREAT, luck.randint(2, GREAT)))
                steps.append((word, luck.randrange(at), right))
            outs = tuple(luck.randrange(n + m + len(steps)) for unused in range(luck.randint(1, 9)))
            self.check((n, m, tuple(steps), outs))

    def test_greatest_work(self):
        steps = tuple(("plus", at, 47) for at in range(6000))
        self.check((24, 24, steps, tuple(range(6047, 5999, -1))))

    def test_known(self):
        self.assertEqual(show_work((1, 0, (), (0,))), "work 1 0 : 0")
        self.assertEqual(
            show_work((2, 1, EACH_WORD, (7, 0, 7))), "work 2 1 * 0 1 + 2 0 - 1 3 x 4 -6 / 5 2 : 7 0 7",
        )
        self.assertEqual(read_work("work 1 1 * 0 1 x 2 -3 : 3"), (1, 1, (("times", 0, 1), ("by", 2, -3)), (3,)))

    def refuse(self, text):
        refused(self, NoText, read_work, text)

    def test_no_works(self):
        for text in (
            "work 0 0 : 0", "work 0 1 : 0", "work 1 0 : 1", "work 1 0 :", "work 1 0 : ", "work 1 1 + 0 2 : 0", "work 1 1 + 2 0 : 0",
            "work 1 1 : 2", "work 1 1 + 0 1 : 3", "work 1 1 / 0 1 : 0", "work 1 1 / 0 0 : 0", "work 1 1 / 0 -2 : 0",
            "work 1 1 / 2 2 : 0", "work 1 1 x 2 2 : 0", "work 1 1 * 0 2 : 0", "work 1 1 - 2 0 : 0", "work 1 1 x -1 2 : 0",
        ):
            self.refuse(text)

    def test_words(self):
        for text in (
            "work", "work 1", "work 1 0", "work 1 0 0", "work :", "work 1 :", "work 1 0 :", "work 1 0 + :", "work 1 0 + 0 :",
            "work 1 0 + 0 0 :", "work 1 0 x", "work 1 0 x 0", "work 1 0 x 0 0", "work : 0", "work 1 : 0", "work 1 0 1 : 0", ": 0", "1 0 : 0", "Work 1 0 : 0",
            "WORK 1 0 : 0", "works 1 0 : 0", "work1 0 : 0", "work 1 0: 0", "work 1 0 :0", "work 1 0 : 0 :", "work 1 0 : : 0",
            "work 1 0 : 0 : 0", "work 1 0 : 0 work", "work 1 0 : 0 0 x", "work 1 0 + 0 : 0", "work 1 0 + 0 0 0 : 0", "work 1 0 + : 0",
            "work 1 0 plus 0 0 : 0", "work 1 0 times 0 0 : 0", "work 1 0 X 0 0 : 0", "work 1 0 % 0 0 : 0", "work 1 0 0 + 0 : 0",
            "work 1 0 ++ 0 0 : 0", "work 1 0 +0 0 : 0", "work 1 0 0 0 0 : 0", "work 1 0 : + 0 0 : 0", "work 1 0 ; 0", "work 1 0 = 0",
            "takes work 1 0 : 0", "work work 1 0 : 0", "work 1 0 : 0.0", "work 1.0 : 0", "work 1 0 : 0,0", "work 1 0 - : 0",
            "work 1 0 x 0 : 0", "work 1 0 x 0 0 0 0 : 0",
        ):
            self.refuse(text)

    def test_blanks_and_line_feeds(self):
        for right in ("work 1 0 : 0", "work 2 1 * 0 1 + 2 0 - 1 3 x 4 -6 / 5 2 : 7 0 7"):
            read_work(right)
            for at in range(len(right) + 1):
                self.refuse(right[:at] + " " + right[at:])
                self.refuse(right[:at] + "\n" + right[at:])
                self.refuse(right[:at] + "\t" + right[at:])
                self.refuse(right[:at] + "." + right[at:])
                if right[at:at + 1] == " ":
                    self.refuse(right[:at] + right[at + 1:])
                    self.refuse(right[:at] + "\n" + right[at + 1:])
                    self.refuse(right[:at] + "." + right[at + 1:])

    def test_wrong_numbers(self):
        right = "work 2 1 * 0 1 + 2 0 - 1 3 x 4 -6 / 5 2 : 7 0 7".split(" ")
        for at, word in enumerate(right):
            if not word[-1].isdigit():
                continue
            for wrong in wrong_numbers():
                text = " ".join(right[:at] + [wrong] + right[at + 1:])
                # By a number below nought is a step, nothing else has one.
                if word == "-6" and wrong == "-1":
                    self.assertEqual(read_work(text)[2][3], ("by", 4, -1))
                else:
                    self.refuse(text)

    def test_signed_numbers(self):
        for number in (0, 1, -1, 10, -10, GREAT, -GREAT, 10 ** 59, -10 ** 59):
            self.assertEqual(read_work(f"work 1 0 x 0 {number} : 1"), (1, 0, (("by", 0, number),), (1,)))
        for wrong in ("-0", "-00", "-01", "--1", "- 1", "-", "+1", "-+1", "1-", f"-{GREAT}0", f"-{GREAT + 1}", f"{GREAT + 1}", "-x"):
            self.refuse(f"work 1 0 x 0 {wrong} : 1")

    def test_a_word_otherwise(self):
        # Held against what a pattern and is_work tell.
        luck = chance(2903)
        words = ("work", ":", "+", "-", "*", "x", "/", "0", "1", "2", "3", "-1", "-0", "00", "", "7", "10")
        pattern = re.compile(rf"work {NUMBER} {NUMBER}(?: [-+*/] {NUMBER} {NUMBER}| x {NUMBER} -?{NUMBER})* :(?: {NUMBER})+")
        names = {sign: word for word, sign in SIGNS.items()}
        taken = 0
        for unused in range(20000):
            text = "work 2 1 * 0 1 + 2 0 x 1 -2 - 3 0 / 2 2 : 3 0 7".split(" ")
            for unused_too in range(luck.randint(1, 2)):
                at = luck.randrange(len(text))
                text[at:at + luck.randint(0, 1)] = [luck.choice(words)] * luck.randint(0, 1)
            text = " ".join(text)
            wanted = None
            if pattern.fullmatch(text) and " -0" not in text:
                head, outs = text.split(" :")
                head = head.split(" ")[1:]
                steps = tuple((names[head[at]], int(head[at + 1]), int(head[at + 2])) for at in range(2, len(head), 3))
                wanted = (int(head[0]), int(head[1]), steps, tuple(int(out) for out in outs.split()))
            if wanted is not None and is_work(wanted):
                taken += 1
                self.assertEqual(read_work(text), wanted)
            else:
                self.refuse(text)
        self.assertGreater(taken, 1000)

    def test_anything(self):
        for thing in no_texts():
            self.refuse(thing)
        for work in WORKS[:3]:
            self.refuse(work)
            self.refuse([written_work(work)])
            self.refuse(written_work(work).split(" "))
            self.refuse(written_work(work).encode())

    def test_asked_again(self):
        work = (2, 1, EACH_WORD, (7, 0, 7))
        self.assertEqual(show_work(work), show_work(work))
        self.assertEqual(work, (2, 1, EACH_WORD, (7, 0, 7)))
        row, plan = (1, 2, 3), (1, 2, 3)
        self.assertEqual((show_row(row), show_plan(plan)), (show_row(row), show_plan(plan)))
        self.assertEqual((row, plan), ((1, 2, 3), (1, 2, 3)))


if __name__ == "__main__":
    unittest.main()
