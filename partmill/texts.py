"""Rows, plans and works written as texts, and read back."""

from partmill.errors import NoText
from partmill.plans import is_plan
from partmill.rows import is_row
from partmill.works import is_work

FIGURES = "0123456789"
MOST_FIGURES = 60
NOUGHT = "-"
SIGNS = {"plus": "+", "minus": "-", "times": "*", "by": "x", "part": "/"}


def pointed(numbers):
    """Numbers parted by points."""
    return ".".join([str(number) for number in numbers])


def show_row(row):
    """The text of a row."""
    return NOUGHT if len(row) == 0 else pointed(row[::-1])


def show_plan(plan):
    """The text of a plan."""
    return pointed(plan)


def show_work(work):
    """The text of a work."""
    n, m, steps, outs = work
    words = ["work", str(n), str(m)]
    for word, left, right in steps:
        words.extend([SIGNS[word], str(left), str(right)])
    words.append(":")
    words.extend([str(out) for out in outs])
    return " ".join(words)


def read_number(text):
    """The number from 0 that is just so written."""
    # Python reads only numbers that aren't too long, and other figures, blanks and signs, too.
    if len(text) == 0 or len(text) > MOST_FIGURES or any(sign not in FIGURES for sign in text):
        raise NoText("no number")
    if text[0] == "0" and len(text) > 1:
        raise NoText("a number with a nought ahead")
    return int(text)


def read_signed(text):
    """The number of any sign that is just so written."""
    if not text.startswith("-"):
        return read_number(text)
    number = read_number(text[1:])
    if number == 0:
        raise NoText("nought with a sign")
    return -number


def read_words(thing, sign):
    """The words of a thing that is a text, parted by a sign."""
    if not isinstance(thing, str):
        raise NoText("no text")
    return thing.split(sign)


def read_pointed(thing):
    """The numbers that a thing tells, parted by points."""
    return tuple([read_number(word) for word in read_words(thing, ".")])


def read_row(base, text):
    """The row of the base that is just so written."""
    if isinstance(text, str) and text == NOUGHT:
        return ()
    row = read_pointed(text)[::-1]
    if not is_row(base, row):
        raise NoText("no row of the base")
    return row


def read_plan(text):
    """The plan that is just so written."""
    plan = read_pointed(text)
    if not is_plan(plan):
        raise NoText("no plan")
    return plan


def word_of(sign):
    """The word of a step that is written by a sign."""
    for word, its_sign in SIGNS.items():
        if its_sign == sign:
            return word
    raise NoText("no sign of a step")


def read_step(sign, left, right):
    """What three words tell; whether the number behind may be below nought is left to is_work."""
    return word_of(sign), read_number(left), read_signed(right)


def read_work(text):
    """The work that is just so written."""
    words = read_words(text, " ")
    if words[0] != "work" or ":" not in words:
        raise NoText("no work")
    ends = words.index(":")
    # Ahead of the outs stand three words to begin with, then three for each step.
    if ends < 3 or ends % 3 != 0:
        raise NoText("words too few or too many")
    steps = [read_step(words[at], words[at + 1], words[at + 2]) for at in range(3, ends, 3)]
    outs = [read_number(word) for word in words[ends + 1:]]
    work = (read_number(words[1]), read_number(words[2]), tuple(steps), tuple(outs))
    if not is_work(work):
        raise NoText("no work")
    return work
