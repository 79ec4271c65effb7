"""What a thing of any kind is."""


def is_whole(thing):
    """Whether a thing is a whole number; to Python a truth is one, too, but not here."""
    return isinstance(thing, int) and not isinstance(thing, bool)
