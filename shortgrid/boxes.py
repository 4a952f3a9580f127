"""Boxes: all lists of weights that no weight's bound leaves out."""


def within(box):
    """All lists of weights, none beyond its bound either way, rising as lists do."""
    found = [[]]
    for bound in box:
        found = [weights + [weight] for weights in found for weight in range(-bound, bound + 1)]
    return found


def leading(box):
    """Those within the box, rising, of which the first weight that is not 0 is above 0."""
    noughts = [0] * len(box)
    # Lists are ordered by the first place at which they differ, so just these come behind the noughts.
    return [weights for weights in within(box) if weights > noughts]
