"""`nearest`: the point, how far it lies, short rows and the box of that."""

import copy
import itertools
import math
import unittest

from shortgrid.errors import TooMany
from shortgrid.near import nearest
from shortgrid.short import shortened
from tests.samples import (FAR, GRIDS, HARD_GRIDS, MOST, Numbers, all_rows_in, bulk_by_all_ways, check_lists_are_new,
                           check_short_rows, counters_by_bulks, eye, flat_rows, many_grids, mixed, point_by_adding,
                           some_of, some_rows, square_of, together, weights_by_bulks)

BYS = (1, 2, 3, 4, 7, 10, 1000, 65536, MOST - 1, MOST)


def how_far(point, spot):
    numbers, by = spot
    return sum((by * place - number) ** 2 for place, number in zip(point, numbers))


def lies_in_stretch(weight, spot, far, bulk, one):
    """Whether a weight is one of the stretch, as the document words it, of the row with this counter."""
    numbers, by = spot
    return (by * bulk * weight - together(numbers, one)) ** 2 <= far * square_of(one)


def all_weights(box):
    return itertools.product(*[range(least, greatest + 1) for least, greatest in box])


def nearest_slowly(rows, spot):
    """How far the nearest point lies, and it, found by short rows: a weight is at most 3 / 2 beside the spot's own."""
    numbers, by = spot
    bulk = bulk_by_all_ways(rows)
    middles = [together(numbers, one) // (by * bulk) for one in counters_by_bulks(rows)]
    about = [range(middle - 1, middle + 3) for middle in middles]
    points = [point_by_adding(rows, weights) for weights in itertools.product(*about)]
    return min((how_far(point, spot), point) for point in points)


def size_of_box(rows, spot, far):
    """How many lists of weights a box has."""
    numbers, by = spot
    whole = by * bulk_by_all_ways(rows)
    size = 1
    for one in counters_by_bulks(rows):
        beside, mark = math.isqrt(far * square_of(one)), together(numbers, one) * (1 if whole > 0 else -1)
        size *= (mark + beside) // abs(whole) + (beside - mark) // abs(whole) + 1
    return size


def spots_on(rows, seed):
    """Spots on points."""
    numbers = Numbers(seed)
    for by in BYS:
        point = point_by_adding(rows, [numbers.between(-3, 3) for _ in rows])
        if max(abs(number) for number in point) * by <= FAR:
            yield tuple(number * by for number in point), by


def spots_between(rows, seed):
    """Spots halfway, a third or a quarter of the way between points."""
    numbers = Numbers(seed)
    for by in (2, 2, 3, 4, 6, 1000, MOST):
        weights = [numbers.between(-by, by) for _ in rows]
        if by > 6:
            weights = [weight // (by // 2) * (by // 2) for weight in weights]
        point = point_by_adding(rows, weights)
        if max(abs(number) for number in point) <= FAR:
            yield point, by


def spots_anywhere(many, seed):
    numbers = Numbers(seed)
    for by in BYS:
        for most in (3, by, 5 * by, MOST, FAR):
            yield tuple(numbers.between(-most, most) for _ in range(many)), by


def spots_at_the_bounds(many):
    for by in (1, 2, 999, MOST - 1, MOST):
        for ends in itertools.product((FAR, -FAR, 0, FAR - 1), repeat=many):
            yield ends, by


def told_or_none(rows, spot):
    """The nearest point and how far it lies, or None where that is too many."""
    try:
        return nearest(rows, spot)[:2]
    except TooMany:
        return None


class NearestCase(unittest.TestCase):
    """Shared: what is to hold of what is told."""

    def holds(self, rows, spot):
        found = nearest(rows, spot)
        self.assertIs(type(found), tuple)
        self.assertEqual(len(found), 4)
        point, far, shorts, box = found
        self.assertIs(type(point), tuple)
        self.assertTrue(all(type(number) is int for number in point))
        self.assertIsNotNone(weights_by_bulks(rows, point))
        self.assertIs(type(far), int)
        self.assertEqual(far, how_far(point, spot))
        check_short_rows(self, rows, shorts)
        self.box_holds(shorts, spot, far, box)
        weights = list(all_weights(box))
        self.assertLessEqual(len(weights), 2000)
        points = [point_by_adding(shorts, some) for some in weights]
        self.assertEqual(min((how_far(other, spot), other) for other in points), (far, point))

    def box_holds(self, shorts, spot, far, box):
        self.assertIs(type(box), list)
        self.assertEqual(len(box), len(shorts))
        bulk = bulk_by_all_ways(shorts)
        for stretch, one in zip(box, counters_by_bulks(shorts)):
            self.assertIs(type(stretch), tuple)
            self.assertTrue(all(type(weight) is int for weight in stretch))
            least, greatest = stretch
            self.assertLessEqual(least, greatest)
            self.assertTrue(lies_in_stretch(least, spot, far, bulk, one))
            self.assertTrue(lies_in_stretch(greatest, spot, far, bulk, one))
            self.assertFalse(lies_in_stretch(least - 1, spot, far, bulk, one))
            self.assertFalse(lies_in_stretch(greatest + 1, spot, far, bulk, one))

    def holds_or_is_refused(self, rows, spot):
        shorts = shortened(rows)[0]
        far, point = nearest_slowly(shorts, spot)
        with self.subTest(rows=rows, spot=spot):
            if size_of_box(shorts, spot, far) > 2000:
                self.assertRaises(TooMany, nearest, rows, spot)
            else:
                self.assertEqual(nearest(rows, spot)[:2], (point, far))
                self.holds(rows, spot)


class NearestTest(NearestCase):
    def test_worked_by_hand(self):
        for rows, spot, point, far in (
                ([(7,)], ((3,), 1), (0,), 9), ([(7,)], ((4,), 1), (7,), 9), ([(-7,)], ((-4,), 1), (-7,), 9),
                ([(7,)], ((7,), 2), (0,), 49), ([(-7,)], ((-7,), 2), (-7,), 49), ([(7,)], ((21,), 2), (7,), 49),
                ([(7,)], ((10,), 3), (0,), 100), ([(7,)], ((11,), 3), (7,), 100),
                ([(7,)], ((FAR,), 1), (FAR - 1,), 1), ([(7,)], ((-FAR,), 1), (1 - FAR,), 1),
                ([(7,)], ((FAR,), MOST), (999999,), FAR), ([(MOST,)], ((1,), MOST), (0,), 1),
                ([(3, -1), (0, 4)], ((1, 1), 1), (0, 0), 2), ([(3, -1), (0, 4)], ((3, 3), 2), (0, 0), 18),
                ([(3, -1), (0, 4)], ((4, 3), 2), (3, 3), 13), ([(3, -1), (0, 4)], ((6, 1), 1), (6, 2), 1),
                ([(2, 1), (-1, 2)], ((1, 3), 2), (-1, 2), 10), ([(2, 1), (-1, 2)], ((0, 5), 2), (-1, 2), 5),
                (eye(2), ((1, 1), 2), (0, 0), 2), (eye(2), ((-1, -1), 2), (-1, -1), 2),
                (eye(2), ((-1, 1), 2), (-1, 0), 2), (eye(2), ((5, -9), 10), (0, -1), 26),
                (eye(3), ((1, 1, 1), 2), (0, 0, 0), 3), (eye(3), ((0, -1, 3), 2), (0, -1, 1), 2),
                ([(1, 1, 0), (1, 0, 1), (0, 1, 1)], ((1, 0, 0), 1), (0, 0, 0), 1),
                ([(1, 1, 0), (1, 0, 1), (0, 1, 1)], ((2, 1, 1), 2), (1, 0, 1), 2)):
            with self.subTest(rows=rows, spot=spot):
                self.assertEqual(nearest(rows, spot)[:2], (point, far))
                self.holds(rows, spot)

    def test_boxes_worked_by_hand(self):
        # Of rows like these all short ones are the same but for their order and signs.
        for rows, spot, sizes in (
                ([(7,)], ((3,), 1), [1]), ([(7,)], ((7,), 2), [2]), (eye(2), ((1, 1), 2), [2, 2]),
                (eye(3), ((4, 5, 6), 1), [1, 1, 1]), (eye(3), ((1, 2, 4), 2), [1, 1, 2]),
                ([(1, 0), (0, 10)], ((0, 4), 1), [1, 9]), ([(0, 10), (1, 0)], ((1, 10), 2), [2, 10]),
                ([(-2, 0, 0), (0, 9, 0), (0, 0, 3)], ((1, 4, 0), 1), [1, 3, 4])):
            with self.subTest(rows=rows, spot=spot):
                box = nearest(rows, spot)[3]
                self.assertEqual(sorted(greatest - least + 1 for least, greatest in box), sizes)
                self.holds(rows, spot)

    def test_on_a_point_nothing_else_is_in_the_box(self):
        for rows in many_grids():
            for spot in spots_on(rows, 1):
                numbers, by = spot
                point, far, shorts, box = nearest(rows, spot)
                with self.subTest(rows=rows, spot=spot):
                    self.assertEqual(point, tuple(number // by for number in numbers))
                    self.assertEqual(far, 0)
                    self.assertEqual(box, [(weight, weight) for weight in weights_by_bulks(shorts, point)])
                    self.holds(rows, spot)

    def test_between_points(self):
        for rows in many_grids():
            for spot in spots_between(rows, 1):
                self.holds_or_is_refused(rows, spot)

    def test_anywhere(self):
        for seed, rows in enumerate(many_grids()):
            for spot in itertools.islice(spots_anywhere(len(rows), seed), seed % 4, None, 4):
                self.holds_or_is_refused(rows, spot)

    def test_numbers_at_their_bounds(self):
        for rows in GRIDS + HARD_GRIDS:
            for spot in some_of(spots_at_the_bounds(len(rows)), (1, 2, 9)[len(rows) - 1]):
                self.holds_or_is_refused(rows, spot)

    def test_great_numbers(self):
        for many in (1, 2, 3):
            for seed in range(40):
                for rows in (some_rows(many, MOST, seed + 3000), flat_rows(many, seed + 3000)):
                    for spot in itertools.islice(spots_anywhere(many, seed), seed % 5, None, 7):
                        self.holds_or_is_refused(rows, spot)

    def test_mixed_rows_have_the_same_nearest_point(self):
        for seed, rows in enumerate(many_grids()):
            other = mixed(rows, seed)
            for spot in itertools.chain(spots_between(rows, seed), some_of(spots_anywhere(len(rows), seed), 9)):
                with self.subTest(rows=rows, other=other, spot=spot):
                    self.assertEqual(told_or_none(other, spot), told_or_none(rows, spot))

    def test_rows_in_any_order_and_of_any_sign(self):
        for rows in HARD_GRIDS[:20] + GRIDS[5:]:
            for order in itertools.permutations(rows):
                for signs in itertools.product((1, -1), repeat=len(rows)):
                    other = [tuple(sign * number for number in row) for sign, row in zip(signs, order)]
                    self.holds_or_is_refused(other, (point_by_adding(rows, [1, 3, -1][:len(rows)]), 2))

    def test_of_all_points_about_the_spot(self):
        spots = [((x, y), by) for by in (1, 2, 3, 5) for x in (-3, 0, 1, 2) for y in (-2, 0, 1, 4)]
        region = list(itertools.product(range(-8, 9), repeat=2))
        for rows in some_of(all_rows_in(3, 2), 31):
            points = [point for point in region if weights_by_bulks(rows, point) is not None]
            for spot in spots:
                point, far = nearest(rows, spot)[:2]
                self.assertEqual((far, point), min((how_far(other, spot), other) for other in points), (rows, spot))

    def test_of_all_points_about_the_spot_in_three_directions(self):
        spots = [((x, y, z), by) for by in (1, 2, 3) for x in (-3, 1, 2) for y in (-2, 1) for z in (-1, 3)]
        region = list(itertools.product(range(-6, 7), repeat=3))
        for seed in range(40):
            rows = some_rows(3, 2, seed + 5000)
            points = [point for point in region if weights_by_bulks(rows, point) is not None]
            for spot in spots:
                point, far = nearest(rows, spot)[:2]
                # No point beyond the region lies so near to such a spot.
                self.assertLessEqual(far, (3 * spot[1]) ** 2)
                self.assertEqual((far, point), min((how_far(other, spot), other) for other in points), (rows, spot))

    def test_outside_of_the_box_all_is_farther(self):
        for seed, rows in enumerate(itertools.chain(some_of(all_rows_in(2, 2), 5), some_of(all_rows_in(1, 3), 101))):
            for spot in some_of(spots_anywhere(len(rows), seed), 8):
                _, far, shorts, box = nearest(rows, spot)
                wider = [(least - 2, greatest + 2) for least, greatest in box]
                within = set(all_weights(box))
                for weights in all_weights(wider):
                    if weights not in within:
                        self.assertGreater(how_far(point_by_adding(shorts, weights), spot), far, (rows, spot))

    def test_only_the_place_of_a_spot_counts(self):
        for rows in many_grids():
            for numbers, by in spots_on(rows, 2):
                times = min(MOST // by, FAR // max(1, max(abs(number) for number in numbers)), 3)
                point, far, shorts, box = nearest(rows, (numbers, by))
                other = nearest(rows, (tuple(times * number for number in numbers), times * by))
                self.assertEqual(other, (point, far, shorts, box))
        for rows in ([(7,)], eye(2), eye(3), [(5, 7), (-2, 3)], [(2, -3, 1), (4, 0, -5), (-1, 6, 7)]):
            for numbers, by in spots_between(rows, 2):
                for times in (1, min(2, MOST // by), MOST // by):
                    point, far, shorts, box = nearest(rows, (numbers, by))
                    other = nearest(rows, (tuple(times * number for number in numbers), times * by))
                    self.assertEqual(other, (point, far * times * times, shorts, box))


class TooManyTest(NearestCase):
    """Boxes of just as many lists of weights as are told, and of a few more."""

    def tried(self, rows, spot, size):
        for order in itertools.permutations(rows):
            for signs in itertools.product((1, -1), repeat=len(rows)):
                other = [tuple(sign * number for number in row) for sign, row in zip(signs, order)]
                with self.subTest(rows=other, spot=spot, size=size):
                    if size > 2000:
                        self.assertRaises(TooMany, nearest, other, spot)
                    else:
                        box = nearest(other, spot)[3]
                        self.assertEqual(len(list(all_weights(box))), size)
                        self.holds(other, spot)

    def test_halfway_along_the_last_row(self):
        for half, size in ((1, 6), (20, 82), (499, 1998), (500, 2002), (501, 2006), (MOST // 2, 2 * MOST + 2)):
            self.tried([(1, 0), (0, 2 * half)], ((0, half), 1), size)
        for half, size in ((1, 18), (14, 1682), (15, 1922), (16, 2178), (MOST // 2, 2 * (MOST + 1) ** 2)):
            self.tried([(1, 0, 0), (0, 1, 0), (0, 0, 2 * half)], ((0, 0, half), 1), size)

    def test_beside_the_last_row(self):
        for far, size in ((0, 1), (999, 1999), (1000, 2001), (1001, 2003)):
            self.tried([(1, 0), (0, 3000)], ((0, far), 1), size)
            self.tried([(1, 0), (0, 3000)], ((-5 * MOST, far * MOST), MOST), size)
        for rows, spot, size in (([(10, 0, 0), (0, 24, 0), (0, 0, 1000)], ((0, 0, 345), 1), 69 * 29),
                                 ([(10, 0, 0), (0, 25, 0), (0, 0, 1000)], ((0, 0, 345), 1), 69 * 27)):
            self.tried(rows, spot, size)

    def test_just_2000_and_others_off_all_points(self):
        self.tried([(1, 0), (0, 3000)], ((1, 2000), 2), 2000)
        self.tried([(1, 0), (0, 1000)], ((1, 1000), 2), 2000)
        self.tried([(1, 0), (0, 3000)], ((1, 2002), 2), 2002)
        self.tried([(1, 0), (0, 1002)], ((1, 1002), 2), 2004)
        self.tried([(10, 0, 0), (0, 25, 0), (0, 0, 250)], ((0, 0, 249), 2), 25 * 9)
        self.tried([(1, 0, 0), (0, 1, 0), (0, 0, 32)], ((1, 1, 32), 2), 2048)
        self.tried([(1, 0, 0), (0, 1, 0), (0, 0, 30)], ((1, 1, 30), 2), 1800)

    def test_other_rows_of_the_same_grid(self):
        for seed in range(10):
            for rows, spot, size in (([(1, 0), (0, 998)], ((0, 499), 1), 1998),
                                     ([(1, 0), (0, 1000)], ((0, 500), 1), 2002),
                                     ([(1, 0, 0), (0, 1, 0), (0, 0, 32)], ((0, 0, 16), 1), 2178)):
                self.tried(mixed(rows, seed), spot, size)


class HandedInAndToldTest(unittest.TestCase):
    def test_what_is_handed_in_stays_the_same(self):
        for rows in many_grids():
            for spot in spots_on(rows, 3):
                kept = copy.deepcopy((rows, spot))
                nearest(rows, spot)
                self.assertEqual((rows, spot), kept)

    def test_what_is_handed_in_stays_the_same_when_refused(self):
        rows, spot = [(1, 0), (0, MOST)], ((0, MOST // 2), 1)
        self.assertRaises(TooMany, nearest, rows, spot)
        self.assertEqual((rows, spot), ([(1, 0), (0, MOST)], ((0, MOST // 2), 1)))

    def test_changing_what_was_told(self):
        for rows in (eye(1), eye(2), eye(3), [(3, -1), (0, 4)], [(7, 7), (5, 4)], [(2, -3, 1), (4, 0, -5), (-1, 6, 7)]):
            with self.subTest(rows=rows):
                check_lists_are_new(self, nearest, rows, ((1, 3, -5)[:len(rows)], 2))
