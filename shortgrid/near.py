"""The point of a grid that lies nearest to a spot, and the box of weights beyond which all points lie farther."""

from shortgrid.checks import check_spot
from shortgrid.errors import TooMany
from shortgrid.grids import all_counters, check_grid, expanded, moved, square, together
from shortgrid.numbers import root
from shortgrid.short import all_near, short_rows

MOST_LISTS = 2000


def nearest(rows, spot):
    """The nearest point, how far it lies from the spot, short rows, and the box of that by these rows."""
    check_grid(rows)
    check_spot(spot, len(rows))
    shorts = short_rows(rows)
    far, point = least_far(shorts, spot)
    box = box_about(shorts, spot, far)
    if size_of(box) > MOST_LISTS:
        raise TooMany("the box has more than 2000 lists of weights")
    return point, far, shorts, box


def least_far(shorts, spot):
    """How far the nearest point lies, and that point, of several the least one."""
    numbers, by = spot
    # Of what is left of the spot's numbers, less a point's times `by`, the square tells how far the point lies.
    return min([(square(left), reached(numbers, left, by)) for left in all_left(shorts, spot)])


def all_left(shorts, spot):
    """What some points, times the spot's `by`, leave of its numbers; all the nearest points are among these."""
    numbers, by = spot
    ahead = [scaled(row, by) for row in shorts[:-1]]
    least, greatest = box_about(shorts, spot, far_enough(shorts, by))[-1]
    # As the rows are short, the last one rises above the others by more than half of its length. So its stretch is
    # small, whatever the rows, and for each of its weights the others are few, too.
    return [
        left
        for weight in range(least, greatest + 1)
        for left in all_near(moved(numbers, -weight * by, shorts[-1]), ahead)
    ]


def far_enough(rows, by):
    """Some point lies no farther than this from a spot, wherever that is."""
    # Rounding the spot's weights changes its place by at most half of each row. These halves together are no longer
    # than the root of all the squares, which holds for up to four rows.
    return by * by * sum([square(row) for row in rows])


def reached(numbers, left, by):
    """The point that, times `by`, leaves this of the spot's numbers."""
    return tuple([(number - other) // by for number, other in zip(numbers, left)])


def scaled(step, times):
    """The step, taken so many times."""
    return tuple([number * times for number in step])


def box_about(rows, spot, far):
    """The box of how far a point lies: for each row the stretch of weights outside of which all points lie farther."""
    numbers, by = spot
    whole = by * expanded(rows)
    return [stretch(whole, together(numbers, one), root(far * square(one))) for one in all_counters(rows)]


def stretch(whole, mark, beside):
    """The least and the greatest weight that, times the whole, lies at most so far beside the mark."""
    if whole < 0:
        whole, mark = -whole, -mark
    # Floor division goes down, so for the least weight the signs are turned and turned back.
    return -((beside - mark) // whole), (mark + beside) // whole


def size_of(box):
    """How many lists of weights the box has."""
    many = 1
    for least, greatest in box:
        many = many * (greatest - least + 1)
    return many
