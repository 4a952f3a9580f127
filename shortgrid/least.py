"""The shortest step of a grid, and the box of weights beyond which all steps are longer."""

from shortgrid.boxes import leading
from shortgrid.grids import all_counters, check_grid, expanded, square, weighted
from shortgrid.numbers import root
from shortgrid.short import short_rows


def shortest(rows):
    """Short rows, a shortest step, the box of its square by these rows, and the lists of weights within it."""
    check_grid(rows)
    shorts = short_rows(rows)
    # In up to three directions no step of the grid is shorter than the first one of short rows.
    box = box_of(shorts, square(shorts[0]))
    lists = leading(box)
    # Of several that are equally short `min` takes the first one.
    step = min([weighted(shorts, weights) for weights in lists], key=square)
    return shorts, step, box, lists


def box_of(rows, most):
    """The box of a square: for each row the bound beyond which a weight makes a point's square greater than that."""
    by = expanded(rows)
    return [root(most * square(one) // (by * by)) for one in all_counters(rows)]
