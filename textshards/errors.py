"""The error classes of the program: one for each kind of failure."""


class ShardError(ValueError):
    """Any failure that the program reports."""


class EmptyText(ShardError):
    """A text, word or circle is empty where it has to have a letter."""


class RangeError(ShardError):
    """A number is out of its range, or a text is no alphabet."""


class TooLarge(ShardError):
    """A text, a list or a history is larger than its limit."""


class TransformError(ShardError):
    """A pair of a column and a place is the transform of no text."""


class VersionError(ShardError):
    """An index has no version with this number."""


class GrainError(ShardError):
    """The grain is out of its range or does not fit the pieces."""


class ShapeError(ShardError):
    """A shape is neither a circle nor a line."""


class LackingError(ShardError):
    """A word is not certain, or a text does not explain the shards."""


class GraphError(ShardError):
    """Pieces or edges make no overlap graph."""


class RingError(ShardError):
    """A walk or a spectrum does not close to a ring."""


class DistanceError(ShardError):
    """Distances are not well formed, or cannot hold together."""


class BudgetError(ShardError):
    """A budget is negative, or too small for any text."""


class ReportError(ShardError):
    """A text is not a written report."""
