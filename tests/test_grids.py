"""`bulk`, `counters`, `point_of`, `weights_of`, `square`: what is told of rows, points and weights."""

import copy
import itertools
import unittest

from shortgrid.grids import bulk, counters, point_of, square, weights_of
from tests.samples import FAR, GRIDS, MOST, bulk_by_all_ways, inversions, point_by_adding, together

POINTS_BESIDE = (
    ([(2,)], (1,)), ([(-2,)], (3,)), ([(7,)], (-6,)), ([(MOST,)], (MOST - 1,)),
    ([(2, 0), (0, 3)], (1, 0)), ([(2, 0), (0, 3)], (0, 1)), ([(2, 0), (0, 3)], (2, -2)),
    ([(0, 3), (2, 0)], (1, 3)), ([(3, -1), (0, 4)], (3, 0)), ([(3, -1), (0, 4)], (1, 1)),
    ([(2, 0, 0), (0, 3, 0), (0, 0, 5)], (1, 3, 5)), ([(2, 0, 0), (0, 3, 0), (0, 0, 5)], (2, 1, 5)),
    ([(2, 0, 0), (0, 3, 0), (0, 0, 5)], (2, 3, -1)), ([(0, 0, 5), (0, 3, 0), (2, 0, 0)], (2, 3, 4)),
    ([(1, 1, 0), (1, -1, 0), (0, 0, 1)], (FAR, FAR - 1, FAR)),
)


def weights_near(many):
    return [list(weights) for weights in itertools.product((-3, -1, 0, 1, 2), repeat=many)]


class BulkTest(unittest.TestCase):
    def test_worked_by_hand(self):
        for rows, wanted in (([(7,)], 7), ([(-7,)], -7), ([(1, 0), (0, 1)], 1), ([(0, 1), (1, 0)], -1),
                             ([(3, -1), (0, 4)], 12), ([(0, 4), (3, -1)], -12), ([(5, 7), (-2, 3)], 29),
                             ([(1, 2, 3), (0, 1, 4), (5, 6, 0)], 1), ([(0, 0, 2), (0, 3, 0), (5, 0, 0)], -30),
                             ([(2, -3, 1), (4, 0, -5), (-1, 6, 7)], 153)):
            with self.subTest(rows=rows):
                self.assertEqual(bulk(rows), wanted)
                self.assertIs(type(bulk(rows)), int)

    def test_sign_of_each_way(self):
        for many in (1, 2, 3):
            for places in itertools.permutations(range(many)):
                rows = [tuple(2 if k == place else 0 for k in range(many)) for place in places]
                with self.subTest(rows=rows):
                    self.assertEqual(bulk(rows), (-1) ** inversions(places) * 2 ** many)

    def test_all_ways(self):
        for rows in GRIDS:
            with self.subTest(rows=rows):
                self.assertEqual(bulk(rows), bulk_by_all_ways(rows))

    def test_all_small_rows_of_two(self):
        tuples = list(itertools.product((-2, 0, 1, 3), repeat=2))
        for rows in itertools.product(tuples, repeat=2):
            self.assertEqual(bulk(list(rows)), bulk_by_all_ways(rows), rows)

    def test_all_small_rows_of_three(self):
        tuples = list(itertools.product((-1, 0, 2), repeat=3))
        for rows in itertools.product(tuples, repeat=3):
            self.assertEqual(bulk(list(rows)), bulk_by_all_ways(rows), rows)

    def test_nought_is_told(self):
        for rows in ([(0,)], [(0, 0), (0, 0)], [(1, 2), (0, 0)], [(0, 0), (1, 2)], [(1, 2), (1, 2)], [(1, 2), (-2, -4)],
                     [(1, 2, 3), (4, 5, 6), (5, 7, 9)], [(5, 7, 9), (1, 2, 3), (4, 5, 6)],
                     [(1, 2, 3), (4, 5, 6), (1, 2, 3)], [(1, 2, 3), (0, 0, 0), (4, 5, 7)],
                     [(MOST, MOST), (MOST, MOST)], [(0, 0, 0)] * 3):
            with self.subTest(rows=rows):
                self.assertEqual(bulk(rows), 0)
                self.assertIs(type(bulk(rows)), int)

    def test_greatest_and_least_numbers(self):
        self.assertEqual(bulk([(MOST,)]), MOST)
        self.assertEqual(bulk([(-MOST,)]), -MOST)
        self.assertEqual(bulk([(MOST, MOST), (MOST, -MOST)]), -2 * 10 ** 12)
        self.assertEqual(bulk([(MOST, MOST), (-MOST, MOST)]), 2 * 10 ** 12)
        self.assertEqual(bulk([(MOST, MOST, MOST), (MOST, -MOST, MOST), (MOST, MOST, -MOST)]), 4 * 10 ** 18)
        self.assertEqual(bulk([(MOST, MOST - 1, 0), (MOST - 1, MOST, 0), (0, 0, -1)]), 1 - 2 * MOST)


class CountersTest(unittest.TestCase):
    def test_worked_by_hand(self):
        for rows, wanted in (([(7,)], [(1,)]), ([(-7,)], [(1,)]), ([(3, -1), (0, 4)], [(4, 0), (1, 3)]),
                             ([(0, 4), (3, -1)], [(-1, -3), (-4, 0)]),
                             ([(1, 2, 3), (0, 1, 4), (5, 6, 0)], [(-24, 20, -5), (18, -15, 4), (5, -4, 1)])):
            with self.subTest(rows=rows):
                self.assertEqual(counters(rows), wanted)

    def test_own_row_gives_the_bulk_and_the_others_nought(self):
        for rows in GRIDS:
            found = counters(rows)
            self.assertEqual(len(found), len(rows))
            for at, row in enumerate(rows):
                for k, counter in enumerate(found):
                    with self.subTest(rows=rows, row=at, counter=k):
                        self.assertEqual(len(counter), len(rows))
                        self.assertEqual(together(row, counter), bulk_by_all_ways(rows) if k == at else 0)

    def test_weights_of_any_point(self):
        for rows in GRIDS:
            for weights in weights_near(len(rows)):
                point = point_by_adding(rows, weights)
                for weight, counter in zip(weights, counters(rows)):
                    self.assertEqual(together(point, counter), weight * bulk_by_all_ways(rows), (rows, weights))

    def test_kinds(self):
        for rows in GRIDS:
            found = counters(rows)
            self.assertIs(type(found), list)
            for counter in found:
                self.assertIs(type(counter), tuple)
                self.assertTrue(all(type(number) is int for number in counter))


class PointOfTest(unittest.TestCase):
    def test_worked_by_hand(self):
        for rows, weights, wanted in (([(7,)], [-3], (-21,)), ([(-7,)], [-3], (21,)), ([(7,)], [0], (0,)),
                                      ([(3, -1), (0, 4)], [2, 1], (6, 2)), ([(0, 4), (3, -1)], [2, 1], (3, 7)),
                                      ([(1, 2, 3), (0, 1, 4), (5, 6, 0)], [1, -1, 2], (11, 13, -1)),
                                      ([(1, 2, 3), (0, 1, 4), (5, 6, 0)], [0, 0, 0], (0, 0, 0))):
            with self.subTest(rows=rows, weights=weights):
                self.assertEqual(point_of(rows, weights), wanted)

    def test_rows_added_up(self):
        for rows in GRIDS:
            for weights in weights_near(len(rows)):
                found = point_of(rows, weights)
                self.assertEqual(found, point_by_adding(rows, weights))
                self.assertIs(type(found), tuple)
                self.assertTrue(all(type(number) is int for number in found))

    def test_greatest_and_least_weights(self):
        self.assertEqual(point_of([(3,)], [FAR]), (3 * FAR,))
        self.assertEqual(point_of([(3,)], [-FAR]), (-3 * FAR,))
        for rows in GRIDS:
            for weights in itertools.product((-FAR, FAR), repeat=len(rows)):
                weights = list(weights)
                with self.subTest(rows=rows, weights=weights):
                    self.assertEqual(point_of(rows, weights), point_by_adding(rows, weights))


class WeightsOfTest(unittest.TestCase):
    def test_worked_by_hand(self):
        for rows, point, wanted in (([(7,)], (-21,), [-3]), ([(-7,)], (21,), [-3]), ([(7,)], (0,), [0]),
                                    ([(3, -1), (0, 4)], (6, 2), [2, 1]), ([(0, 4), (3, -1)], (3, 7), [2, 1]),
                                    ([(1, 2, 3), (0, 1, 4), (5, 6, 0)], (11, 13, -1), [1, -1, 2]),
                                    ([(2, 0), (0, 3)], (0, 0), [0, 0])):
            with self.subTest(rows=rows, point=point):
                self.assertEqual(weights_of(rows, point), wanted)

    def test_there_and_back(self):
        for rows in GRIDS:
            for weights in weights_near(len(rows)):
                found = weights_of(rows, point_of(rows, weights))
                self.assertEqual(found, weights, rows)
                self.assertIs(type(found), list)
                self.assertTrue(all(type(weight) is int for weight in found))

    def test_a_point_beside_the_grid(self):
        for rows, point in POINTS_BESIDE:
            with self.subTest(rows=rows, point=point):
                self.assertIsNone(weights_of(rows, point))

    def test_each_point_about_nought_has_its_weights_or_none(self):
        for rows in ([(3, -1), (1, 2)], [(1, 2), (3, -1)], [(2, 0), (1, -2)]):
            made = {point_by_adding(rows, weights): list(weights)
                    for weights in itertools.product(range(-12, 13), repeat=2)}
            for point in itertools.product(range(-5, 6), repeat=2):
                with self.subTest(rows=rows, point=point):
                    self.assertEqual(weights_of(rows, point), made.get(point))

    def test_greatest_and_least_points(self):
        self.assertEqual(weights_of([(1,)], (FAR,)), [FAR])
        self.assertEqual(weights_of([(-1,)], (FAR,)), [-FAR])
        self.assertEqual(weights_of([(MOST,)], (-FAR,)), [-MOST])
        self.assertEqual(weights_of([(2, 1), (1, 1)], (FAR, -FAR)), [2 * FAR, -3 * FAR])
        self.assertEqual(weights_of([(1, 1), (2, 1)], (-FAR, FAR)), [3 * FAR, -2 * FAR])
        self.assertEqual(weights_of([(1, 1, 0), (1, -1, 0), (0, 0, -1)], (FAR, FAR, -FAR)), [FAR, 0, FAR])

    def test_weights_may_be_greater_than_those_taken(self):
        self.assertEqual(weights_of([(1, MOST), (0, 1)], (FAR, -FAR)), [FAR, -FAR - FAR * MOST])


class SquareTest(unittest.TestCase):
    def test_ordinary(self):
        for step, wanted in (((0,), 0), ((-7,), 49), ((3, -4), 25), ((0, 0), 0), ((1, -2, 3), 14), ((0, 0, -1), 1)):
            with self.subTest(step=step):
                self.assertEqual(square(step), wanted)
                self.assertIs(type(square(step)), int)

    def test_great_steps(self):
        self.assertEqual(square((FAR, -FAR, FAR)), 3 * 10 ** 24)
        self.assertEqual(square((10 ** 20 + 1, -1)), 10 ** 40 + 2 * 10 ** 20 + 2)


class HandedInAndToldTest(unittest.TestCase):
    def test_what_is_handed_in_stays_the_same(self):
        for rows in GRIDS:
            weights = list(range(-1, len(rows) - 1))
            kept_rows = copy.deepcopy(rows)
            kept_weights = list(weights)
            with self.subTest(rows=rows):
                bulk(rows)
                counters(rows)
                weights_of(rows, point_of(rows, weights))
                weights_of(rows, (1,) * len(rows))
                self.assertEqual(rows, kept_rows)
                self.assertEqual(weights, kept_weights)

    def test_changing_told_counters(self):
        for rows in GRIDS:
            told = counters(rows)
            kept = list(told)
            told[0] = None
            told.append("more")
            with self.subTest(rows=rows):
                self.assertEqual(counters(rows), kept)
                self.assertIsNot(counters(rows), counters(rows))
                self.assertEqual(weights_of(rows, rows[0]), [1] + [0] * (len(rows) - 1))

    def test_changing_told_weights(self):
        for rows in GRIDS:
            told = weights_of(rows, rows[-1])
            kept = list(told)
            told[0] = 99
            told.append(98)
            with self.subTest(rows=rows):
                self.assertEqual(weights_of(rows, rows[-1]), kept)
                self.assertEqual(point_of(rows, kept), rows[-1])

    def test_rows_that_were_changed_are_told_anew(self):
        rows = [(2, 0), (0, 3)]
        self.assertEqual((bulk(rows), counters(rows)), (6, [(3, 0), (0, 2)]))
        rows[0] = (5, 0)
        self.assertEqual((bulk(rows), counters(rows)), (15, [(3, 0), (0, 5)]))
        self.assertEqual(point_of(rows, [1, 1]), (5, 3))
        self.assertIsNone(weights_of(rows, (2, 0)))
