"""Points that are alike by a grid: the rest of a point, all rests, and how often one grid lies in another."""

from shortgrid.checks import check_point
from shortgrid.errors import TooMany
from shortgrid.grids import check_grid, check_grids, expanded, table
from shortgrid.stairs import brought_down, stair_of

MOST_RESTS = 400


def rest(rows, point):
    """The rest of all points that are alike with this one."""
    check_grid(rows)
    check_point(point, len(rows))
    left = point
    # A row of a stair has noughts ahead of its own place, so what is brought down there stays so.
    for place, row in enumerate(stair_of(rows)):
        left = brought_down(left, row, place)
    return left


def rests(rows):
    """The rising list of all rests."""
    check_grid(rows)
    if abs(expanded(rows)) > MOST_RESTS:
        raise TooMany("there are more than 400 rests")
    found = [()]
    for place, row in enumerate(stair_of(rows)):
        found = [numbers + (number,) for numbers in found for number in range(row[place])]
    return found


def index(one, other):
    """How many rests of the first grid are points of the second one, or None if it does not lie within that."""
    check_grids(one, other)
    if table(one, other) is None:
        return None
    return abs(expanded(one)) // abs(expanded(other))
