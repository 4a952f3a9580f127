"""Short rows: rows of the same grid of which none becomes shorter by the others."""

from shortgrid.boxes import within
from shortgrid.grids import all_counters, check_grid, expanded, square, table, together, weighted
from shortgrid.numbers import rounded


def shortened(rows):
    """Short rows of the grid, a table that tells them by the rows, and one that tells the rows by them."""
    check_grid(rows)
    shorts = short_rows(rows)
    return shorts, table(shorts, rows), table(rows, shorts)


def short_rows(rows):
    """Short rows of the grid of the rows, unchecked."""
    shorts = sorted(rows, key=square)
    at = 1
    # Always the rows ahead of `at` are short among themselves. Each time that this begins anew the squares have come
    # to less, so there is an end to it.
    while at < len(shorts):
        shorter = brought_near(shorts[at], shorts[:at])
        moves_ahead = square(shorter) < square(shorts[at - 1])
        shorts = shorts[:at] + [shorter] + shorts[at + 1:]
        if moves_ahead:
            shorts = sorted(shorts, key=square)
            at = 1
        else:
            at = at + 1
    return shorts


def brought_near(step, ahead):
    """The shortest of all that the step becomes by adding and taking away one or two rows, short among themselves."""
    return min(all_near(step, ahead), key=square)


def all_near(step, ahead):
    """Some of what the step becomes by up to two rows, short among themselves; all the shortest are among it."""
    taken = shares(step, ahead)
    # As the rows are short, no exact share is farther than 1 from a best number of times, and none is farther than
    # a half from the rounded one. So a best one is at most 1 beside the rounded one.
    return [
        weighted([step] + ahead, [1] + [beside - times for beside, times in zip(weights, taken)])
        for weights in within([1] * len(ahead))
    ]


def shares(step, ahead):
    """How often each of the rows goes into the step, rounded."""
    # Exactly it goes so often that what is left of the step has nothing along any row. What each row has along the
    # others makes rows of its own, by whose counters the shares come out like the weights of a point.
    along = [tuple([together(row, other) for other in ahead]) for row in ahead]
    sought = [together(step, row) for row in ahead]
    return [rounded(together(sought, one), expanded(along)) for one in all_counters(along)]
