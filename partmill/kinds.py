"""What a thing of any kind is."""


def is_whole(thing):
    """Whether a thing is a whole number; to Python a truth is one, too, but not here."""
    return isinstance(thing, int) and not isinstance(thing, bool)


def is_triple(size, begins, thing):
    """Whether a thing is (size, number, guess), the guess None where it begins a nearing, else a number."""
    if not isinstance(thing, tuple) or len(thing) != 3:
        return False
    told, number, guess = thing
    if not is_whole(told) or told != size or not is_whole(number):
        return False
    return guess is None if begins else is_whole(guess)


def are_triples(sizes, thing):
    """Whether a thing is a tuple of (size, number, guess)s, for just these sizes in order."""
    if not isinstance(thing, tuple) or len(thing) != len(sizes):
        return False
    return all(is_triple(sizes[at], at == 0, thing[at]) for at in range(len(sizes)))
