"""`shortest`: short rows, a shortest step, its box and the lists of weights within it."""

import copy
import itertools
import unittest

from shortgrid.grids import counters
from shortgrid.least import shortest
from tests.samples import (HARD_GRIDS, MOST, all_rows_in, bulk_by_all_ways, check_lists_are_new, check_short_rows,
                           counters_by_bulks, eye, flat_rows, many_grids, mixed, point_by_adding, some_of, some_rows,
                           square_of)


def lists_within(box):
    """All lists of weights that [11] tells of a box."""
    found = []
    for weights in itertools.product(*[range(-bound, bound + 1) for bound in box]):
        ahead = [weight for weight in weights if weight != 0]
        if ahead and ahead[0] > 0:
            found.append(list(weights))
    return sorted(found)


class ShortestTest(unittest.TestCase):
    def holds(self, rows):
        found = shortest(rows)
        self.assertIs(type(found), tuple)
        self.assertEqual(len(found), 4)
        shorts, step, box, lists = found
        check_short_rows(self, rows, shorts)
        self.box_holds(shorts, step, box)
        self.assertIs(type(lists), list)
        self.assertEqual(lists, lists_within(box))
        for weights in lists:
            self.assertIs(type(weights), list)
            self.assertTrue(all(type(weight) is int for weight in weights))
        points = [point_by_adding(shorts, weights) for weights in lists]
        least = min(square_of(point) for point in points)
        self.assertEqual(step, [point for point in points if square_of(point) == least][0])
        self.assertIs(type(step), tuple)
        for weights in itertools.product(range(-2, 3), repeat=len(rows)):
            if any(weights):
                self.assertGreaterEqual(square_of(point_by_adding(shorts, weights)), least)
                self.assertGreaterEqual(square_of(point_by_adding(rows, weights)), least)

    def box_holds(self, shorts, step, box):
        self.assertIs(type(box), list)
        self.assertEqual(len(box), len(shorts))
        for bound, one in zip(box, counters_by_bulks(shorts)):
            self.assertIs(type(bound), int)
            most = square_of(step) * square_of(one)
            by = bulk_by_all_ways(shorts) ** 2
            self.assertGreaterEqual(bound, 0)
            self.assertLessEqual(bound ** 2 * by, most)
            self.assertGreater((bound + 1) ** 2 * by, most)

    def test_worked_by_hand(self):
        # Where the short rows may differ, what is told is worked out of those that were told.
        for rows, steps, box, lists in (
                ([(7,)], [(7,), (-7,)], [1], [[1]]), ([(-MOST,)], [(MOST,), (-MOST,)], [1], [[1]]),
                ([(100, 0), (0, 3)], [(0, 3), (0, -3)], [1, 0], [[1, 0]]),
                ([(5, 5), (-5, 5)], [(-5, 5), (5, 5), (5, -5), (-5, -5)], [1, 1], [[0, 1], [1, -1], [1, 0], [1, 1]]),
                ([(90, 0, 0), (90, 80, 0), (90, 80, 7)], [(0, 0, 7), (0, 0, -7)], [1, 0, 0], [[1, 0, 0]])):
            with self.subTest(rows=rows):
                found = shortest(rows)
                self.assertIn(found[1], steps)
                self.assertEqual(found[2:], (box, lists))

    def test_first_of_several_shortest_ones(self):
        for many in (2, 3):
            shorts, step, box, lists = shortest(eye(many))
            self.assertEqual(box, [1] * many)
            self.assertEqual(len(lists), (3 ** many - 1) // 2)
            self.assertEqual(step, shorts[-1])
        shorts, step, box, lists = shortest([(1, 1, 0), (1, 0, 1), (0, 1, 1)])
        self.assertEqual((box, len(lists)), ([1, 1, 1], 13))
        self.assertEqual(square_of(step), 2)

    def test_many_grids(self):
        for rows in many_grids():
            with self.subTest(rows=rows):
                self.holds(rows)

    def test_mixed_rows(self):
        for rows in many_grids():
            for seed in range(2):
                other = mixed(rows, seed)
                with self.subTest(rows=other):
                    self.holds(other)
                    self.assertEqual(square_of(shortest(other)[1]), square_of(shortest(rows)[1]))

    def test_great_numbers(self):
        for many in (1, 2, 3):
            for seed in range(30):
                for rows in (some_rows(many, MOST, seed + 2000), flat_rows(many, seed + 2000)):
                    with self.subTest(rows=rows):
                        self.holds(rows)

    def test_hard_rows_in_any_order(self):
        for rows in HARD_GRIDS:
            for order in itertools.permutations(rows):
                with self.subTest(rows=order):
                    self.holds(list(order))

    def test_all_small_rows(self):
        for rows in itertools.chain(all_rows_in(9, 1), all_rows_in(2, 2), some_of(all_rows_in(1, 3), 7)):
            self.holds(rows)

    def test_beyond_the_box_all_is_longer(self):
        for rows in itertools.chain(all_rows_in(2, 2), some_of(all_rows_in(1, 3), 11), HARD_GRIDS):
            shorts, step, box, _ = shortest(rows)
            for weights in itertools.product(range(-3, 4), repeat=len(rows)):
                if any(abs(weight) > bound for weight, bound in zip(weights, box)):
                    self.assertGreater(square_of(point_by_adding(shorts, weights)), square_of(step))

    def test_the_counters_taken_here_are_those_told(self):
        for rows in many_grids():
            self.assertEqual(counters_by_bulks(rows), counters(rows))


class HandedInAndToldTest(unittest.TestCase):
    def test_what_is_handed_in_stays_the_same(self):
        for rows in many_grids():
            kept = copy.deepcopy(rows)
            shortest(rows)
            self.assertEqual(rows, kept)

    def test_changing_what_was_told(self):
        for rows in (eye(1), eye(2), eye(3), [(3, -1), (0, 4)], [(7, 7), (5, 4)], [(2, -3, 1), (4, 0, -5), (-1, 6, 7)]):
            with self.subTest(rows=rows):
                check_lists_are_new(self, shortest, rows)
