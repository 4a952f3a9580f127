"""Stairs, whether grids are the same or lie within one another, and the joined and the common grid of two."""

from shortgrid.grids import check_grid, check_grids, moved, table


def stair(rows):
    """The one stair that makes the grid of the rows."""
    check_grid(rows)
    return stair_of(rows)


def same(one, other):
    """Tell whether two lists of rows make the same grid."""
    check_grids(one, other)
    return stair_of(one) == stair_of(other)


def made_of(one, other):
    """Each row of one by the rows of other, or None where one's grid does not lie within the other's."""
    check_grids(one, other)
    return table(one, other)


def joined(one, other):
    """The stair of the grid of all sums of a point of the one and a point of the other."""
    check_grids(one, other)
    many = len(one)
    return [row[:many] for row in stair_of(paired(one, other))[:many]]


def common(one, other):
    """The stair of the grid of all points that both have."""
    check_grids(one, other)
    many = len(one)
    return [row[many:] for row in stair_of(paired(one, other))[many:]]


def paired(one, other):
    """Rows of twice as many directions, whose stair holds that of the joined grid and that of the common one."""
    # A point of these rows is a sum of a point of the one and a point of the other, and behind it the former. Where
    # the sum is 0, the former is the other point with all signs turned, and so it is a point of both.
    noughts = (0,) * len(one)
    return [row + row for row in one] + [row + noughts for row in other]


def stair_of(rows):
    """The stair of rows that make a grid, of however many directions and however great, unchecked."""
    left = list(rows)
    found = []
    for place in range(len(rows)):
        head, left = split_off(left, place)
        found = [brought_down(row, head, place) for row in found] + [head]
    return found


def split_off(steps, place):
    """A step with a number above 0 at the place, and others with 0 there, which make what these steps make."""
    head = steps[0]
    left = []
    for step in steps[1:]:
        head, beside = parted(head, step, place)
        left.append(beside)
    return (head if head[place] > 0 else turned(head)), left


def parted(one, other, place):
    """Two steps that make what these two make, the second one with 0 at the place."""
    while other[place] != 0:
        one, other = other, brought_down(one, other, place)
    return one, other


def brought_down(step, by, place):
    """The step less as many times the other one as its number at the place holds that of the other."""
    return moved(step, -(step[place] // by[place]), by)


def turned(step):
    """The step with all signs turned."""
    return tuple([-number for number in step])
