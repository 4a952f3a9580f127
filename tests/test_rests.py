"""`rest`, `rests`, `index`."""

import copy
import itertools
import unittest

from shortgrid.errors import TooMany
from shortgrid.rests import index, rest, rests
from shortgrid.stairs import stair
from tests.samples import (FAR, MOST, Numbers, all_rows_in, bulk_by_all_ways, check_lists_are_new, eye, lies_within,
                           many_grids, mixed, pairs, point_by_adding, some_of, some_rows, taken, weights_by_bulks)


def less(one, other):
    return tuple(a - b for a, b in zip(one, other))


def alike(rows, one, other):
    return weights_by_bulks(rows, less(one, other)) is not None


def some_points(many, seed):
    numbers = Numbers(seed)
    for most in (1, 10, MOST, FAR):
        for _ in range(3):
            yield tuple(numbers.between(-most, most) for _ in range(many))
    yield from itertools.islice(itertools.product((FAR, -FAR, 0, 1 - FAR), repeat=many), 0, None, many)


def is_point(thing, many):
    return type(thing) is tuple and len(thing) == many and all(type(number) is int for number in thing)


class RestTest(unittest.TestCase):
    def holds(self, rows, point):
        found = rest(rows, point)
        with self.subTest(rows=rows, point=point):
            self.assertTrue(is_point(found, len(rows)))
            for place, row in enumerate(stair(rows)):
                self.assertGreaterEqual(found[place], 0)
                self.assertLess(found[place], row[place])
            self.assertTrue(alike(rows, point, found))
        return found

    def test_worked_by_hand(self):
        # The stair of the rows of two directions is (3, 3), (0, 4).
        for rows, point, wanted in (
                ([(7,)], (0,), (0,)), ([(7,)], (6,), (6,)), ([(7,)], (7,), (0,)), ([(-7,)], (-1,), (6,)),
                ([(7,)], (FAR,), (1,)), ([(7,)], (-FAR,), (6,)), ([(1,)], (-FAR,), (0,)), ([(MOST,)], (-1,), (999999,)),
                ([(3, -1), (0, 4)], (5, 5), (2, 2)), ([(3, -1), (0, 4)], (-1, 0), (2, 3)),
                ([(3, -1), (0, 4)], (2, 3), (2, 3)), ([(0, 4), (3, -1)], (3, 3), (0, 0)),
                ([(3, -1), (0, 4)], (3, 0), (0, 1)), ([(3, -1), (0, 4)], (FAR, -FAR), (1, 1)),
                ([(2, 0, 0), (0, 3, 0), (0, 0, 5)], (-1, -1, -1), (1, 2, 4)),
                ([(1, 1, 0), (1, 0, 1), (0, 1, 1)], (3, 4, 6), (0, 0, 1)),
                ([(1, 1, 0), (1, 0, 1), (0, 1, 1)], (-3, 4, 5), (0, 0, 0))):
            with self.subTest(rows=rows, point=point):
                self.assertEqual(rest(rows, point), wanted)

    def test_many_grids(self):
        for seed, rows in enumerate(many_grids()):
            for point in some_points(len(rows), seed):
                found = self.holds(rows, point)
                if max(found) <= FAR:
                    self.assertEqual(rest(rows, found), found)

    def test_points_alike_have_one_rest(self):
        numbers = Numbers(11)
        for rows in many_grids():
            for point in some_points(len(rows), 5):
                step = point_by_adding(rows, [numbers.between(-4, 4) for _ in rows])
                other = less(point, step)
                if max(abs(number) for number in other) <= FAR:
                    self.assertEqual(rest(rows, other), rest(rows, point), (rows, point, other))

    def test_other_rows_of_the_grid_have_the_same_rests(self):
        for seed, rows in enumerate(many_grids()):
            other = mixed(rows, seed)
            for point in some_points(len(rows), 6):
                self.assertEqual(rest(other, point), rest(rows, point), (rows, other, point))

    def test_one_rest_just_for_points_alike(self):
        for rows in itertools.chain(some_of(all_rows_in(3, 2), 37), [some_rows(3, 2, seed) for seed in range(4)]):
            points = list(itertools.product(range(-2, 3), repeat=len(rows)))
            told = [self.holds(rows, point) for point in points]
            for (one, first), (other, second) in itertools.combinations(zip(points, told), 2):
                self.assertEqual(first == second, alike(rows, one, other), (rows, one, other))

    def test_as_many_rests_as_the_bulk_tells(self):
        for rows in some_of(all_rows_in(4, 2), 53):
            many = abs(bulk_by_all_ways(rows))
            points = itertools.product(range(many), repeat=2)
            self.assertEqual(len({rest(rows, point) for point in points}), many)

    def test_the_points_of_the_grid_rest_at_nought(self):
        for rows in many_grids():
            for row in rows:
                self.assertEqual(rest(rows, row), (0,) * len(rows))


class RestsTest(unittest.TestCase):
    def holds(self, rows):
        found = rests(rows)
        with self.subTest(rows=rows):
            self.assertIs(type(found), list)
            self.assertTrue(all(is_point(point, len(rows)) for point in found))
            self.assertEqual(len(found), abs(bulk_by_all_ways(rows)))
            self.assertTrue(all(ahead < behind for ahead, behind in zip(found, found[1:])))
            self.assertTrue(all(rest(rows, point) == point for point in found))

    def test_worked_by_hand(self):
        for rows, wanted in (
                ([(1,)], [(0,)]), ([(3,)], [(0,), (1,), (2,)]), ([(-3,)], [(0,), (1,), (2,)]), (eye(2), [(0, 0)]),
                ([(2, 1), (1, 2)], [(0, 0), (0, 1), (0, 2)]), ([(1, 1), (1, -1)], [(0, 0), (0, 1)]),
                ([(2, 0), (0, 2)], [(0, 0), (0, 1), (1, 0), (1, 1)]), (eye(3), [(0, 0, 0)]),
                ([(0, 0, 2), (0, 1, 0), (2, 0, 0)], [(0, 0, 0), (0, 0, 1), (1, 0, 0), (1, 0, 1)])):
            with self.subTest(rows=rows):
                self.assertEqual(rests(rows), wanted)

    def test_all_bulks_of_one_direction(self):
        for number in range(1, 401):
            self.assertEqual(rests([(number,)]), [(k,) for k in range(number)])
            self.assertEqual(rests([(-number,)]), [(k,) for k in range(number)])

    def test_many_grids_either_way(self):
        for rows in many_grids():
            if abs(bulk_by_all_ways(rows)) > 400:
                self.assertRaises(TooMany, rests, rows)
            else:
                self.holds(rows)

    def test_bulks_about_the_limit(self):
        for many, most in ((2, 25), (3, 10)):
            for seed in range(150):
                rows = some_rows(many, most, seed + 4000)
                if abs(bulk_by_all_ways(rows)) > 400:
                    self.assertRaises(TooMany, rests, rows)
                else:
                    self.holds(rows)

    def test_just_400(self):
        for rows in ([(400,)], [(20, 0), (0, 20)], [(0, 16), (25, 0)], [(1, 7), (0, 400)], [(400, 400), (1, 2)],
                     [(4, 0, 0), (0, 10, 0), (0, 0, 10)], [(0, 0, 1), (0, -1, 0), (400, 0, 0)],
                     [(1, 0, 5), (0, 1, 9), (0, 0, -400)]):
            for other in [rows] + [mixed(rows, seed) for seed in range(4)]:
                self.holds(other)
                self.assertEqual(len(rests(other)), 400)

    def test_just_401(self):
        for rows in ([(401,)], [(-401,)], [(1, 7), (0, 401)], [(20, 1), (-1, 20)], [(400, 399), (1, 2)],
                     [(1, 0, 5), (0, 1, 9), (0, 0, 401)], [(0, 0, 1), (0, 401, 0), (1, 0, 0)]):
            for other in [rows] + [mixed(rows, seed) for seed in range(4)]:
                self.assertEqual(abs(bulk_by_all_ways(other)), 401)
                self.assertRaises(TooMany, rests, other)

    def test_by_far_too_many(self):
        for rows in ([(MOST,)], [(-MOST,)], [(MOST, MOST), (MOST, -MOST)], [(MOST, 0, 0), (0, MOST, 0), (0, 0, MOST)]):
            self.assertRaises(TooMany, rests, rows)


class IndexTest(unittest.TestCase):
    def test_worked_by_hand(self):
        for one, other, wanted in (
                ([(6,)], [(2,)], 3), ([(6,)], [(-2,)], 3), ([(-6,)], [(2,)], 3), ([(6,)], [(6,)], 1),
                ([(2,)], [(6,)], None), ([(6,)], [(4,)], None), ([(MOST,)], [(1,)], MOST),
                ([(6, 2), (0, 8)], [(3, -1), (0, 4)], 4), ([(3, -1), (0, 4)], [(6, 2), (0, 8)], None),
                ([(3, -1), (0, 4)], eye(2), 12), (eye(2), [(3, -1), (0, 4)], None),
                ([(2, 0), (0, 3)], [(3, 0), (0, 2)], None), ([(2, 0), (0, 2)], [(1, 1), (1, -1)], 2),
                ([(4, 0), (0, 4)], [(1, 0), (0, 16)], None),
                ([(2, 0, 0), (0, 2, 0), (0, 0, 2)], [(1, 1, 0), (1, 0, 1), (0, 1, 1)], 4),
                ([(MOST, 0, 0), (0, MOST, 0), (0, 0, MOST)], eye(3), MOST ** 3)):
            with self.subTest(one=one, other=other):
                found = index(one, other)
                self.assertEqual(found, wanted)
                self.assertIn(type(found), (int, type(None)))

    def holds(self, one, other):
        found = index(one, other)
        with self.subTest(one=one, other=other):
            if not lies_within(one, other):
                self.assertIsNone(found)
                return
            self.assertIs(type(found), int)
            self.assertEqual(found * abs(bulk_by_all_ways(other)), abs(bulk_by_all_ways(one)))
            if abs(bulk_by_all_ways(one)) <= 400:
                shared = [point for point in rests(one) if weights_by_bulks(other, point) is not None]
                self.assertEqual(found, len(shared))

    def test_any_two_either_way(self):
        for one, other in pairs():
            self.holds(one, other)
            self.holds(other, one)

    def test_a_row_taken_more_often(self):
        for rows in many_grids():
            for at in range(len(rows)):
                for times in (1, 2, 3, -5):
                    other = taken(rows, at, times)
                    if max(abs(number) for number in other[at]) <= MOST:
                        self.assertEqual(index(other, rows), abs(times))
                        self.assertEqual(index(rows, other), 1 if times == 1 else None)
                        self.holds(other, mixed(rows, 4))

    def test_grids_within_small_ones(self):
        numbers = Numbers(3)
        within = 0
        for rows in itertools.chain(some_of(all_rows_in(2, 2), 3), some_of(all_rows_in(1, 3), 23)):
            times = [[numbers.between(-2, 2) for _ in rows] for _ in rows]
            one = [point_by_adding(rows, weights) for weights in times]
            if bulk_by_all_ways(one) != 0:
                within += 1
                self.assertEqual(index(one, rows), abs(bulk_by_all_ways(times)))
                self.holds(one, rows)
                self.holds(rows, one)
        self.assertGreater(within, 100)


class HandedInAndToldTest(unittest.TestCase):
    def test_what_is_handed_in_stays_the_same(self):
        for one, other in pairs():
            kept = copy.deepcopy((one, other))
            rest(one, other[0])
            index(one, other)
            index(other, one)
            if abs(bulk_by_all_ways(one)) <= 400:
                rests(one)
            self.assertEqual((one, other), kept)

    def test_changing_what_was_told(self):
        for rows in (eye(1), eye(2), eye(3), [(3, -1), (0, 4)], [(7, 7), (5, 4)], [(2, -3, 1), (4, 0, -5), (-1, 6, 7)]):
            with self.subTest(rows=rows):
                check_lists_are_new(self, rests, rows)
