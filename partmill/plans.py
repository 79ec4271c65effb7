"""Plans: for each size the way in which strips of it are multiplied."""

from partmill.kinds import is_whole


def may_cut(n, p):
    """Whether a size may be cut in p parts, so that something is left for the last one."""
    if not is_whole(p) or p < 2 or p > 5:
        return False
    full = (n + p - 1) // p
    return n - (p - 1) * full >= 1


def is_way(n, thing):
    """Whether a thing is a way for strips of n numbers."""
    return is_whole(thing) and (thing == 1 or may_cut(n, thing))


def is_plan(thing):
    """Whether a thing is a plan."""
    if not isinstance(thing, tuple) or len(thing) == 0:
        return False
    return all(is_way(at + 1, way) for at, way in enumerate(thing))
