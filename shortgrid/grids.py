"""Grids: the bulk of rows, their counters, and the way between weights and points."""

from shortgrid.checks import check_point, check_rows, check_weights
from shortgrid.errors import BadRows


def bulk(rows):
    """The bulk of rows, 0 where they make no grid."""
    check_rows(rows)
    return expanded(rows)


def check_grid(rows):
    """Refuse what is no list of rows that make a grid."""
    if bulk(rows) == 0:
        raise BadRows("the bulk of the rows is 0")


def check_grids(one, other):
    """Refuse two lists of rows if one of them makes no grid, or if they are of unlike many rows."""
    check_grid(one)
    check_grid(other)
    if len(one) != len(other):
        raise BadRows("two lists of rows are of as many rows")


def counters(rows):
    """The list of counters, one tuple for each row."""
    check_grid(rows)
    return all_counters(rows)


def point_of(rows, weights):
    """The point of the weights: the sum of all rows, each as often as its weight tells."""
    check_grid(rows)
    check_weights(weights, len(rows))
    return weighted(rows, weights)


def weights_of(rows, point):
    """The weights whose point this is, or None if it is no point of the grid."""
    check_grid(rows)
    check_point(point, len(rows))
    return told_by(rows, point)


def square(step):
    """What the numbers of a step, each times itself, come to."""
    return together(step, step)


# The functions below take what may be greater than rows and points that are handed in, and check nothing.


def all_counters(rows):
    """The list of counters of rows that make a grid."""
    return [counter(rows, at) for at in range(len(rows))]


def weighted(steps, weights):
    """The sum of all steps, each as often as its weight tells; there is at least one."""
    return tuple([together(weights, numbers) for numbers in zip(*steps)])


def told_by(rows, point):
    """The weights of the rows whose point this is, or None if it is no point of their grid."""
    by = expanded(rows)
    weights = []
    for one in all_counters(rows):
        weight, left = divmod(together(point, one), by)
        if left != 0:
            return None
        weights.append(weight)
    return weights


def table(points, rows):
    """Each of the points by the rows, or None if one of them is no point of their grid."""
    found = [told_by(rows, point) for point in points]
    return None if any([weights is None for weights in found]) else found


def moved(step, times, other):
    """The step and so many times the other one, added up."""
    return tuple([number + times * more for number, more in zip(step, other)])


def together(numbers, others):
    """Each number times the other one at its place, added up."""
    return sum([number * other for number, other in zip(numbers, others)])


def counter(rows, at):
    """The counter of the row at a place: by what the bulk grows for 1 more at each place of that row."""
    return tuple([sign(at + place) * expanded(without(rows, at, place)) for place in range(len(rows))])


def expanded(rows):
    """The bulk of as many tuples as each has numbers, unchecked; it is opened up along the first one."""
    if not rows:
        # There is one way to pick from no rows, and no numbers multiplied come to 1.
        return 1
    total = 0
    for place, number in enumerate(rows[0]):
        total = total + sign(place) * number * expanded(without(rows, 0, place))
    return total


def without(rows, at, place):
    """The rows but the one at a place, and of each but the number at the other place."""
    return [row[:place] + row[place + 1:] for k, row in enumerate(rows) if k != at]


def sign(exchanges):
    """1 for an even number of exchanges, -1 for an odd one."""
    return 1 if exchanges % 2 == 0 else -1
