"""The errors of Linkwork, those of all stages."""


class LinkworkError(ValueError):
    """The base class of all errors."""


class ByZero(LinkworkError):
    """A division by 0, or a denominator 0."""


class TooLarge(LinkworkError):
    """An expression or a tree beyond the bounds."""


class NoValue(LinkworkError):
    """A key that an environment does not have."""


class BadKind(LinkworkError):
    """A truth in the place of a number, or the other way round."""


class BadSystem(LinkworkError):
    """A system that is not good."""


class BadModel(LinkworkError):
    """A model of which no system can be made."""


class BadText(LinkworkError):
    """A text that cannot be read from the index `at` on."""

    def __init__(self, at):
        LinkworkError.__init__(self, f"the text cannot be read from the index {at} on")
        self.at = at


class BadLibrary(LinkworkError):
    """A library that is not sound because of the class `name`."""

    def __init__(self, name):
        LinkworkError.__init__(self, f"the class {name} violates a rule of libraries")
        self.name = name


class Singular(LinkworkError):
    """A system that does not determine what is asked for."""


class NoSolution(LinkworkError):
    """Linear equations without a solution."""


class ManySolutions(LinkworkError):
    """Linear equations with more than one solution."""


class NotLinear(LinkworkError):
    """An expression that is not linear in its keys."""


class BadReset(LinkworkError):
    """A reset of a state that cannot be reset."""


class TooMany(LinkworkError):
    """A run of too many instants."""
