"""The refusals of Figrow."""


class RowError(ValueError):
    """Any refusal."""


class NoBase(RowError):
    """A base that is none."""


class NoRow(RowError):
    """What is no row of the base."""


class NoFigure(RowError):
    """What is no figure of the base."""


class NoCount(RowError):
    """What is no count, or one below the least."""


class BelowNought(RowError):
    """A number below nought, which no row stands for."""


class ByNought(RowError):
    """A division by nought."""
