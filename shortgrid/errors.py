"""The refusals of the program."""


class GridError(ValueError):
    """Any refusal."""


class BadRows(GridError):
    """What was handed in as rows is no rows, or makes no grid."""


class BadPoint(GridError):
    """What was handed in as a point is none."""


class BadWeights(GridError):
    """What was handed in as weights is no list of weights for the rows."""


class BadSpot(GridError):
    """What was handed in as a spot is none."""


class BadText(GridError):
    """A text is not just what is written of rows that make a grid."""


class TooMany(GridError):
    """There is more to tell than the program tells."""
