"""Things of any kind, and what every test asks of what is told."""

from random import Random

from partmill.errors import (
    Below, MillError, NoDivisor, NoLine, NoRoot, NoText, Shared, TooGreat, Uneven, Unfit,
)

REFUSALS = (Below, NoDivisor, NoRoot, TooGreat, NoText, NoLine, Uneven, Unfit, Shared)


def nested(inner, wrap, depth=30):
    for unused in range(depth):
        inner = wrap(inner)
    return inner


def deep_things():
    """Things nested thirty deep."""
    told = []
    for inner in (0, 1, True, None, "times", ()):
        told.append(nested(inner, lambda thing: (thing,), 29))
        told.append(nested(inner, lambda thing: [thing]))
        told.append(nested(inner, lambda thing: {"a": thing}))
        told.append(nested(inner, lambda thing: (1, thing, [thing]), 12))
        told.append(nested(inner, lambda thing: (1, 1, thing, (0,)), 29))
        told.append(nested(inner, lambda thing: ("plus", 0, thing), 29))
    return told


class Odd:
    """A thing of a kind that the program does not know, with which nothing can be done."""

    def __eq__(self, other):
        raise AssertionError("an odd thing was compared")

    def __lt__(self, other):
        raise AssertionError("an odd thing was ordered")

    __le__ = __gt__ = __ge__ = __ne__ = __lt__
    __hash__ = None


def flat_things():
    """Things that are no whole numbers and no tuples."""
    return [
        None, True, False, "", "0", "1", "times", "(1,)", b"", b"\x01", 0.0, 1.0, 2.0, 1.5, float("nan"),
        1j, [], [1], [0, 1], {}, {0: 1}, set(), {1}, frozenset(), range(3), object(), Odd(), len, int, tuple,
        lambda: 1, iter((1,)),
    ]


def no_numbers():
    """Things that stand for no whole number."""
    return flat_things() + deep_things() + [(), (1,)]


def refused(test, kind, asked, *told):
    """The refusal of a call: of this kind and of no other, and the same when asked again."""
    with test.assertRaises(MillError) as caught:
        asked(*told)
    refusal = caught.exception
    test.assertIsInstance(refusal, ValueError)
    test.assertEqual([other for other in REFUSALS if isinstance(refusal, other)], [kind])
    with test.assertRaises(kind) as again:
        asked(*told)
    test.assertEqual(vars(again.exception), vars(refusal))
    return refusal


def put_at(row, at, thing):
    """The tuple with another thing in one place."""
    return row[:at] + (thing,) + row[at + 1:]


def all_whole(thing):
    """Whether a told tuple holds nothing but tuples and whole numbers that are no truths."""
    if type(thing) is tuple:
        return all(all_whole(inner) for inner in thing)
    return type(thing) is int


def told_parts(work):
    """All numbers of a work, its words left out."""
    n, m, steps, outs = work
    return (n, m, tuple(step[1:] for step in steps), outs)


def chance(seed):
    """Numbers that look like chance and are the same at each run."""
    return Random(seed)


def some_number(luck, figures):
    """A number of either sign, of at most so many decimal figures, now and then nought."""
    return luck.randint(-1, 1) * luck.randrange(10 ** luck.randint(0, figures))


def some_strip(luck, many, figures=4):
    return tuple(some_number(luck, figures) for unused in range(many))


def some_row(luck, base, many):
    """A row of just so many figures."""
    if many == 0:
        return ()
    return tuple(luck.randrange(base) for unused in range(many - 1)) + (luck.randrange(1, base),)


def number_told(base, strip):
    """The number that a row or a strip tells."""
    return sum(number * base ** at for at, number in enumerate(strip))


def figures_of(base, number):
    """The row of a number."""
    figures = []
    while number:
        number, figure = divmod(number, base)
        figures.append(figure)
    return tuple(figures)
