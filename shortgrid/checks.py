"""What rows, points, weights and spots look like, whatever is handed in as such."""

from shortgrid.errors import BadPoint, BadRows, BadSpot, BadWeights

ROW_BOUND = 1000000
POINT_BOUND = 10 ** 12
BY_BOUND = 1000000


def is_whole(thing, bound):
    """Tell whether a thing is a whole number from -bound to bound."""
    # True and False are of another class than int, though isinstance would let them pass.
    return type(thing) == int and -bound <= thing <= bound


def are_whole(things, many, bound):
    """Tell whether a list or tuple has just so many things, each a whole number within the bound."""
    return len(things) == many and all([is_whole(thing, bound) for thing in things])


def is_tuple_of(thing, many, bound):
    """Tell whether a thing is a tuple of so many whole numbers within the bound."""
    return type(thing) == tuple and are_whole(thing, many, bound)


def check_rows(rows):
    """Refuse what is no list of rows; their bulk may still be 0."""
    if type(rows) != list or not 1 <= len(rows) <= 3:
        raise BadRows("rows are a list of one, two or three tuples")
    if not all([is_tuple_of(row, len(rows), ROW_BOUND) for row in rows]):
        raise BadRows("a row is a tuple of as many whole numbers as there are rows, from -1000000 to 1000000")


def check_point(point, many):
    """Refuse what is no point of so many directions."""
    if not is_tuple_of(point, many, POINT_BOUND):
        raise BadPoint("a point is a tuple of a whole number for each direction, from -10 ** 12 to 10 ** 12")


def check_weights(weights, many):
    """Refuse what is no list of weights for so many rows."""
    if type(weights) != list or not are_whole(weights, many, POINT_BOUND):
        raise BadWeights("weights are a list of a whole number for each row, from -10 ** 12 to 10 ** 12")


def check_spot(spot, many):
    """Refuse what is no spot of so many directions."""
    if type(spot) != tuple or len(spot) != 2:
        raise BadSpot("a spot is a tuple of two things, a tuple and a whole number")
    numbers, by = spot
    if not is_tuple_of(numbers, many, POINT_BOUND):
        raise BadSpot("a spot has a whole number for each direction, from -10 ** 12 to 10 ** 12")
    if not is_whole(by, BY_BOUND) or by < 1:
        raise BadSpot("a spot's numbers are divided by a whole number from 1 to 1000000")
