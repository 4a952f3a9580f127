"""Grids to try, and slow ways to work out what is asked of them, just as the document words it."""

import copy
import itertools

MOST = 1000000
FAR = 10 ** 12

GRIDS = (
    [(1,)], [(7,)], [(-7,)], [(MOST,)], [(-MOST,)],
    [(1, 0), (0, 1)], [(0, 1), (1, 0)], [(3, -1), (0, 4)], [(0, 4), (3, -1)], [(5, 7), (-2, 3)], [(2, 9), (3, 4)],
    [(MOST, MOST), (MOST, -MOST)], [(-MOST, MOST), (-MOST, -MOST)],
    [(1, 0, 0), (0, 1, 0), (0, 0, 1)], [(0, 1, 0), (0, 0, 1), (1, 0, 0)], [(0, 0, 2), (0, 3, 0), (5, 0, 0)],
    [(1, 2, 3), (0, 1, 4), (5, 6, 0)], [(2, -3, 1), (4, 0, -5), (-1, 6, 7)], [(4, 0, -5), (2, -3, 1), (-1, 6, 7)],
    [(MOST, MOST, MOST), (MOST, -MOST, MOST), (MOST, MOST, -MOST)],
    [(-MOST, MOST, -MOST), (-MOST, -MOST, MOST), (MOST, -MOST, -MOST)],
)

# Rows that many ways of making rows short come slowly by, or stop too early at.
HARD_GRIDS = (
    [(832040, 514229), (514229, 317811)], [(MOST, MOST - 1), (MOST - 1, MOST - 2)], [(1, MOST), (0, 1)],
    [(MOST, 1), (MOST, 0)], [(2, 1), (-1, 2)], [(1, 0), (MOST // 2, MOST)], [(4, 0), (2, 3)], [(-4, 0), (2, 3)],
    [(1, 1, 0), (1, 0, 1), (0, 1, 1)], [(1, 1, -1), (1, -1, 1), (-1, 1, 1)], [(2, 0, 0), (0, 2, 0), (1, 1, 1)],
    [(2, 1, 1), (1, 2, 1), (-2, -2, 1)], [(3, -3, 1), (-3, 1, 3), (1, 3, -3)], [(9, 1, 0), (0, 9, 1), (-8, -9, 2)],
    [(MOST, MOST, 1), (MOST, MOST - 1, 1), (MOST, 0, 1 - MOST)],
    [(MOST - 1, -MOST, MOST - 1), (1, MOST, 0), (MOST - 1, MOST - 1, MOST)],
    [(1, -MOST, 0), (1 - MOST, 1 - MOST, MOST), (MOST - 1, -MOST, -MOST)],
    [(-540168, 661852, 652545), (-162424, 199012, 196214), (-625104, 765922, 755150)],
    [(731, -235785, 49885), (2759, -890085, 188318), (2733, -882224, 186654)],
    [(-450103, 285771, 276439), (-426068, 323059, 141687), (281938, -163060, -209562)],
    [(1, 0, MOST), (0, 1, MOST), (0, 0, 1)], [(MOST, MOST - 1, MOST - 2), (MOST - 1, MOST - 2, MOST), (1, 0, 0)],
    [(0, 0, MOST), (MOST, 0, 0), (MOST // 2, MOST, MOST // 2)],
)


class Numbers:
    """Numbers that look like chance, and are the same each time."""

    def __init__(self, seed):
        self.state = seed

    def upto(self, many):
        self.state = (self.state * 6364136223846793005 + 1442695040888963407) % 2 ** 64
        return (self.state >> 33) % many

    def between(self, low, high):
        return low + self.upto(high - low + 1)


def eye(many):
    return [tuple(1 if k == at else 0 for k in range(many)) for at in range(many)]


def some_rows(many, most, seed):
    """Rows that make a grid, of numbers from -most to most."""
    numbers = Numbers(seed)
    while True:
        rows = [tuple(numbers.between(-most, most) for _ in range(many)) for _ in range(many)]
        if bulk_by_all_ways(rows) != 0:
            return rows


def flat_rows(many, seed):
    """Rows that make a grid and lie close to one line."""
    numbers = Numbers(seed)
    while True:
        line = [numbers.between(-MOST + 2, MOST - 2) for _ in range(many)]
        parts = [numbers.between(-1000, 1000) for _ in range(many)]
        rows = [tuple(number * part // 1000 + numbers.between(-1, 1) for number in line) for part in parts]
        if bulk_by_all_ways(rows) != 0:
            return rows


def many_grids():
    """Grids of all sizes and shapes."""
    yield from GRIDS
    yield from HARD_GRIDS
    for many in (1, 2, 3):
        for most in (1, 3, 12, 1000, MOST):
            for seed in range(8):
                yield some_rows(many, most, seed)
        for seed in range(12):
            yield flat_rows(many, seed)


def mixed(rows, seed, turns=40):
    """Other rows of the same grid: added to one another, signs turned, in another order, none beyond the bound."""
    numbers = Numbers(seed)
    rows = list(rows)
    for _ in range(turns):
        at, other = numbers.upto(len(rows)), numbers.upto(len(rows))
        what = numbers.upto(4)
        if what == 0:
            rows[at], rows[other] = rows[other], rows[at]
        elif what == 1:
            rows[at] = tuple(-number for number in rows[at])
        elif at != other:
            times = numbers.between(-3, 3)
            row = tuple(number + times * more for number, more in zip(rows[at], rows[other]))
            if max(abs(number) for number in row) <= MOST:
                rows[at] = row
    return rows


def taken(rows, at, times):
    """The rows with one of them taken so often."""
    return rows[:at] + [tuple(times * number for number in rows[at])] + rows[at + 1:]


def pairs():
    """Two lists of as many rows each, of all sizes and shapes."""
    for many in (1, 2, 3):
        for most in (2, 5, 30, MOST):
            for seed in range(10):
                one = some_rows(many, most, seed)
                yield one, some_rows(many, most, seed + 100)
                yield one, mixed(one, seed)
                yield one, taken(one, many - 1, 2) if most < MOST else eye(many)
    yield [(MOST,)], [(MOST - 1,)]
    yield [(-4,)], [(6,)]
    yield [(MOST, 0), (0, MOST)], [(MOST - 1, 0), (0, MOST - 1)]
    yield [(MOST, 1 - MOST), (MOST, MOST)], [(MOST - 1, MOST), (-MOST, MOST - 3)]
    yield eye(3), [(MOST, MOST, MOST), (MOST, -MOST, MOST), (MOST, MOST, -MOST)]
    yield [(2, 0, 0), (0, 3, 0), (0, 0, 5)], [(0, 0, 2), (3, 0, 0), (0, 5, 0)]


def inversions(places):
    return sum(1 for one, other in itertools.combinations(places, 2) if one > other)


def bulk_by_all_ways(rows):
    """The bulk just as the document words it."""
    total = 0
    for places in itertools.permutations(range(len(rows))):
        product = 1
        for row, place in zip(rows, places):
            product *= row[place]
        total += product if inversions(places) % 2 == 0 else -product
    return total


def together(numbers, others):
    return sum(number * other for number, other in zip(numbers, others))


def square_of(step):
    return sum(number * number for number in step)


def point_by_adding(rows, weights):
    point = [0] * len(rows)
    for row, weight in zip(rows, weights):
        for place, number in enumerate(row):
            point[place] += weight * number
    return tuple(point)


def counters_by_bulks(rows):
    """The counters: the number at a place is the bulk with a row of noughts but for a 1 there in the row's stead."""
    return [tuple(bulk_by_all_ways(rows[:at] + [one] + rows[at + 1:]) for one in eye(len(rows)))
            for at in range(len(rows))]


def weights_by_bulks(rows, point):
    """The weights of a point by the bulks of the rows with the point in the stead of one, None if it has none."""
    weights = []
    for at in range(len(rows)):
        weight, left = divmod(bulk_by_all_ways(rows[:at] + [point] + rows[at + 1:]), bulk_by_all_ways(rows))
        if left:
            return None
        weights.append(weight)
    return weights


def lies_within(one, other):
    """Whether each row of one is a point of other's grid."""
    return all(weights_by_bulks(other, row) is not None for row in one)


def is_short(rows):
    """Whether rows are short, as the document words it."""
    for at, row in enumerate(rows):
        others = rows[:at] + rows[at + 1:]
        for times in itertools.product((-1, 0, 1), repeat=len(others)):
            changed = list(row)
            for time, other in zip(times, others):
                changed = [number + time * more for number, more in zip(changed, other)]
            if square_of(changed) < square_of(row):
                return False
    return all(square_of(ahead) <= square_of(behind) for ahead, behind in zip(rows, rows[1:]))


def all_rows_in(most, many):
    tuples = list(itertools.product(range(-most, most + 1), repeat=many))
    for rows in itertools.product(tuples, repeat=many):
        if bulk_by_all_ways(rows) != 0:
            yield list(rows)


def some_of(rows, each):
    """Every so manieth of the rows."""
    return itertools.islice(rows, 0, None, each)


def lists_in(found):
    """All lists in what was told, also those within others."""
    lists = [found] if type(found) is list else []
    for thing in found:
        if type(thing) in (list, tuple):
            lists.extend(lists_in(thing))
    return lists


def check_short_rows(case, rows, shorts):
    """They are a list of tuples, short, and make the same grid."""
    case.assertIs(type(shorts), list)
    case.assertTrue(all(type(row) is tuple for row in shorts))
    case.assertTrue(is_short(shorts))
    case.assertTrue(lies_within(shorts, rows))
    case.assertTrue(lies_within(rows, shorts))


def check_lists_are_new(case, asked, *told):
    """Each list that is told is one of its own, and what the asker does to it changes no later answer."""
    kept = copy.deepcopy(told)
    found = asked(*told)
    wanted = copy.deepcopy(found)
    lists = lists_in(found) + list(told)
    case.assertEqual(len({id(thing) for thing in lists}), len(lists))
    for thing in lists_in(found):
        thing[0] = 99
        thing.append("more")
    case.assertEqual(told, kept)
    case.assertEqual(asked(*told), wanted)
