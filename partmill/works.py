"""Works: (n, m, steps, outs), rows of small steps on cells."""

from partmill.errors import Uneven
from partmill.kinds import is_whole

WORDS = ("times", "plus", "minus", "by", "part")


def is_cell(many, thing):
    """Whether a thing is one of so many cells, which are numbered from 0."""
    return is_whole(thing) and 0 <= thing < many


def is_step(ahead, thing):
    """Whether a thing is a step that has so many cells ahead of its own."""
    if not isinstance(thing, tuple) or len(thing) != 3:
        return False
    word, left, right = thing
    if not isinstance(word, str) or not is_cell(ahead, left):
        return False
    if word == "by":
        return is_whole(right)
    if word == "part":
        return is_whole(right) and right >= 2
    return word in WORDS and is_cell(ahead, right)


def are_steps(begun, thing):
    """Whether a thing is the steps of a work with so many cells to begin with."""
    return isinstance(thing, tuple) and all(is_step(begun + at, step) for at, step in enumerate(thing))


def are_outs(many, thing):
    """Whether a thing is the outs of a work with so many cells in all."""
    return isinstance(thing, tuple) and len(thing) > 0 and all(is_cell(many, out) for out in thing)


def is_work(thing):
    """Whether a thing is a work."""
    if not isinstance(thing, tuple) or len(thing) != 4:
        return False
    n, m, steps, outs = thing
    if not is_whole(n) or not is_whole(m) or n < 1 or m < 0:
        return False
    return are_steps(n + m, steps) and are_outs(n + m + len(steps), outs)


def made(cells, at, step):
    """The number that step number at makes of the cells ahead of it."""
    word, left, right = step
    if word == "times":
        return cells[left] * cells[right]
    if word == "plus":
        return cells[left] + cells[right]
    if word == "minus":
        return cells[left] - cells[right]
    if word == "by":
        return cells[left] * right
    if cells[left] % right != 0:
        raise Uneven(at)
    return cells[left] // right


def ran(work, one, other):
    """The strip of the outs, of strips of n and m numbers (the other is () where m is 0)."""
    steps = work[2]
    outs = work[3]
    cells = [*one, *other]
    for at, step in enumerate(steps):
        cells.append(made(cells, at, step))
    return tuple([cells[out] for out in outs])


def counted(work):
    """How many steps of a work are times, plus, minus, by, part."""
    words = [step[0] for step in work[2]]
    return tuple([words.count(word) for word in WORDS])
