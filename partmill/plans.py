"""Plans: for each size the way in which strips of it are multiplied."""

from partmill.cutting import part_sizes
from partmill.kinds import is_whole


def may_cut(n, p):
    """Whether a size may be cut in p parts, so that something is left for the last one."""
    if not is_whole(p) or p < 2 or p > 5:
        return False
    full, last = part_sizes(n, p)
    return last >= 1


def ways(n):
    """All ways that strips of n numbers may have, from the least on."""
    return [1] + [p for p in range(2, 6) if may_cut(n, p)]


def is_way(n, thing):
    """Whether a thing is a way for strips of n numbers."""
    return is_whole(thing) and thing in ways(n)


def is_plan(thing):
    """Whether a thing is a plan."""
    if not isinstance(thing, tuple) or len(thing) == 0:
        return False
    return all(is_way(at + 1, way) for at, way in enumerate(thing))
