"""Grids: the bulk of rows, their counters, and the way between weights and points."""

from shortgrid.checks import check_point, check_rows, check_weights
from shortgrid.errors import BadRows


def bulk(rows):
    """The bulk of rows, 0 where they make no grid."""
    check_rows(rows)
    return expanded(rows)


def grid_bulk(rows):
    """The bulk of rows that make a grid; others are refused."""
    found = bulk(rows)
    if found == 0:
        raise BadRows("the bulk of the rows is 0")
    return found


def counters(rows):
    """The list of counters, one tuple for each row."""
    grid_bulk(rows)
    return [counter(rows, at) for at in range(len(rows))]


def point_of(rows, weights):
    """The point of the weights: the sum of all rows, each as often as its weight tells."""
    grid_bulk(rows)
    check_weights(weights, len(rows))
    return tuple([together(weights, [row[place] for row in rows]) for place in range(len(rows))])


def weights_of(rows, point):
    """The weights whose point this is, or None if it is no point of the grid."""
    by = grid_bulk(rows)
    check_point(point, len(rows))
    weights = []
    for one in counters(rows):
        weight, left = divmod(together(point, one), by)
        if left != 0:
            return None
        weights.append(weight)
    return weights


def square(step):
    """What the numbers of a step, each times itself, come to."""
    return together(step, step)


def together(numbers, others):
    """Each number times the other one at its place, added up."""
    return sum([number * other for number, other in zip(numbers, others)])


def counter(rows, at):
    """The counter of the row at a place: by what the bulk grows for 1 more at each place of that row."""
    return tuple([sign(at + place) * expanded(without(rows, at, place)) for place in range(len(rows))])


def expanded(rows):
    """The bulk of as many tuples as each has numbers, unchecked; it is opened up along the first one."""
    if not rows:
        # There is one way to pick from no rows, and no numbers multiplied come to 1.
        return 1
    total = 0
    for place, number in enumerate(rows[0]):
        total = total + sign(place) * number * expanded(without(rows, 0, place))
    return total


def without(rows, at, place):
    """The rows but the one at a place, and of each but the number at the other place."""
    return [row[:place] + row[place + 1:] for k, row in enumerate(rows) if k != at]


def sign(exchanges):
    """1 for an even number of exchanges, -1 for an odd one."""
    return 1 if exchanges % 2 == 0 else -1
