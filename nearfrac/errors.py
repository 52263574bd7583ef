"""The refusals of the package."""


class FractionError(ValueError):
    """Any refusal."""


class NoFraction(FractionError):
    """Two values do not stand for a fraction."""


class NoPath(FractionError):
    """No path in the tree leads there, or what should be a path is none."""


class NoBounds(FractionError):
    """The low bound is greater than the high one."""


class NoRoom(FractionError):
    """The greatest lower part that is let in lets in no fraction."""


class Unsure(FractionError):
    """No one fraction is nearest to all targets between the bounds."""


class NoText(FractionError):
    """A text writes no path."""


class NoNumber(FractionError):
    """A text is no decimal."""
