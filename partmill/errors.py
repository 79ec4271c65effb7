"""The refusals of the mill, each a class straight under MillError."""


class MillError(ValueError):
    """Any refusal of the mill."""


class Below(MillError):
    """A number would be below nought."""


class NoDivisor(MillError):
    """Nought divides nothing."""


class NoRoot(MillError):
    """There is no such root in the field."""


class TooGreat(MillError):
    """A number may be too great to be told by its rests."""


class NoText(MillError):
    """A text is not written as it should be."""


class NoLine(MillError):
    """The desk does not know such a line."""


class Uneven(MillError):
    """A part that does not go out even, at a step of a work that is run."""

    def __init__(self, step):
        super().__init__(f"step {step} does not go out even")
        self.step = step


class Unfit(MillError):
    """A step of a work that has no form."""

    def __init__(self, step):
        super().__init__(f"step {step} is not fit")
        self.step = step


class Shared(MillError):
    """Two places whose moduli have a common divisor above 1."""

    def __init__(self, first, second):
        super().__init__(f"the moduli at {first} and {second} share a divisor")
        self.first = first
        self.second = second
