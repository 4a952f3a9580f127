"""`stair`, `same`, `made_of`, `joined`, `common`."""

import copy
import itertools
import unittest

from shortgrid.stairs import common, joined, made_of, same, stair
from tests.samples import (MOST, bulk_by_all_ways, check_lists_are_new, eye, lies_within, many_grids, mixed, pairs,
                           point_by_adding, some_rows, taken, weights_by_bulks)


def is_stair(rows):
    """Whether rows are a stair, as the document words it."""
    for k, row in enumerate(rows):
        if any(row[:k]) or row[k] <= 0 or not all(0 <= ahead[k] < row[k] for ahead in rows[:k]):
            return False
    return True


def all_stairs(most):
    """All stairs of up to three rows, of numbers up to the most one."""
    for top in range(1, most + 1):
        yield [(top,)]
    for top, low in itertools.product(range(1, most + 1), repeat=2):
        for ahead in range(low):
            yield [(top, ahead), (0, low)]
    for top, low, last in itertools.product(range(1, most + 1), repeat=3):
        for ahead, far, near in itertools.product(range(low), range(last), range(last)):
            yield [(top, ahead, far), (0, low, near), (0, 0, last)]


class KindsTest(unittest.TestCase):
    """Shared: what a list of tuples is made of."""

    def is_list_of_tuples(self, rows, many):
        self.assertIs(type(rows), list)
        self.assertEqual(len(rows), many)
        for row in rows:
            self.assertIs(type(row), tuple)
            self.assertEqual(len(row), many)
            self.assertTrue(all(type(number) is int for number in row))


class StairTest(KindsTest):
    def test_worked_by_hand(self):
        for rows, wanted in (
                ([(7,)], [(7,)]), ([(-7,)], [(7,)]), ([(MOST,)], [(MOST,)]), ([(-MOST,)], [(MOST,)]),
                ([(0, 1), (1, 0)], eye(2)),
                ([(3, -1), (0, 4)], [(3, 3), (0, 4)]), ([(0, 4), (3, -1)], [(3, 3), (0, 4)]),
                ([(2, 1), (1, 2)], [(1, 2), (0, 3)]), ([(-2, 0), (0, -3)], [(2, 0), (0, 3)]),
                ([(4, 0), (2, 3)], [(2, 3), (0, 6)]), ([(2, 5), (0, 5)], [(2, 0), (0, 5)]),
                ([(5, 7), (-2, 3)], [(1, 13), (0, 29)]),
                ([(0, 0, 2), (0, 3, 0), (5, 0, 0)], [(5, 0, 0), (0, 3, 0), (0, 0, 2)]),
                ([(1, 2, 3), (0, 1, 4), (5, 6, 0)], eye(3)),
                ([(1, 1, 0), (1, 0, 1), (0, 1, 1)], [(1, 0, 1), (0, 1, 1), (0, 0, 2)]),
                ([(2, -1, -1), (0, 3, -4), (0, 0, 5)], [(2, 2, 0), (0, 3, 1), (0, 0, 5)])):
            with self.subTest(rows=rows):
                self.assertEqual(stair(rows), wanted)

    def test_is_a_stair_of_the_same_grid(self):
        for rows in many_grids():
            found = stair(rows)
            with self.subTest(rows=rows):
                self.is_list_of_tuples(found, len(rows))
                self.assertTrue(is_stair(found))
                self.assertTrue(lies_within(found, rows))
                self.assertTrue(lies_within(rows, found))
                self.assertEqual(bulk_by_all_ways(found), abs(bulk_by_all_ways(rows)))

    def test_mixed_rows_have_the_same_stair(self):
        for rows in many_grids():
            for seed in range(4):
                other = mixed(rows, seed)
                with self.subTest(rows=rows, other=other):
                    self.assertEqual(stair(other), stair(rows))

    def test_rows_in_any_order_and_of_any_sign(self):
        for rows in many_grids():
            wanted = stair(rows)
            for order in itertools.permutations(rows):
                for signs in itertools.product((1, -1), repeat=len(rows)):
                    other = [tuple(sign * number for number in row) for sign, row in zip(signs, order)]
                    self.assertEqual(stair(other), wanted, other)

    def test_a_stair_is_its_own(self):
        for rows in all_stairs(4):
            self.assertTrue(is_stair(rows))
            self.assertEqual(stair(rows), rows)
            self.assertEqual(stair(mixed(rows, 5)), rows)

    def test_numbers_may_be_greater_than_those_of_rows(self):
        self.assertEqual(stair([(MOST, MOST - 1), (MOST - 1, MOST)]), [(1, 2 * MOST - 2), (0, 2 * MOST - 1)])
        self.assertEqual(stair([(MOST, 1), (MOST - 1, MOST)])[1][1], MOST * MOST - MOST + 1)
        rows = [(MOST, 1, 0), (0, MOST, 1), (1, 0, MOST)]
        self.assertEqual([row[k] for k, row in enumerate(stair(rows))], [1, 1, MOST ** 3 + 1])


class SameTest(unittest.TestCase):
    def test_mixed_rows(self):
        for rows in many_grids():
            for seed in range(3):
                other = mixed(rows, seed)
                with self.subTest(rows=rows, other=other):
                    self.assertIs(same(rows, other), True)
                    self.assertIs(same(other, rows), True)

    def test_a_row_taken_twice_or_thrice(self):
        for rows in many_grids():
            for at in range(len(rows)):
                for times in (2, 3, -2, -3):
                    other = taken(rows, at, times)
                    if max(abs(number) for number in other[at]) <= MOST:
                        with self.subTest(rows=rows, other=other):
                            self.assertIs(same(rows, other), False)
                            self.assertIs(same(other, rows), False)
                            self.assertIs(same(other, mixed(other, 3)), True)

    def test_any_two(self):
        for one, other in pairs():
            with self.subTest(one=one, other=other):
                wanted = lies_within(one, other) and lies_within(other, one)
                self.assertIs(same(one, other), wanted)
                self.assertIs(same(other, one), wanted)

    def test_as_great_a_bulk_is_not_enough(self):
        for one, other in (([(2, 0), (0, 3)], [(3, 0), (0, 2)]), ([(2, 0), (0, 2)], [(1, 0), (0, 4)]),
                           ([(2, 0), (0, 2)], [(2, 1), (0, 2)]), ([(2, 1, 0), (0, 2, 0), (0, 0, 1)],
                                                                  [(2, 0, 1), (0, 1, 0), (0, 0, 2)])):
            self.assertIs(same(one, other), False)
            self.assertIs(same(other, one), False)


class MadeOfTest(unittest.TestCase):
    def is_table(self, found, one, other):
        self.assertIs(type(found), list)
        self.assertEqual(len(found), len(one))
        for weights, row in zip(found, one):
            self.assertIs(type(weights), list)
            self.assertEqual(len(weights), len(one))
            self.assertTrue(all(type(weight) is int for weight in weights))
            self.assertEqual(point_by_adding(other, weights), row)

    def test_worked_by_hand(self):
        for one, other, wanted in (
                ([(6,)], [(-2,)], [[-3]]), ([(2,)], [(6,)], None), ([(5,)], [(5,)], [[1]]), ([(7,)], [(2,)], None),
                ([(6, 2), (3, 3)], [(3, -1), (0, 4)], [[2, 1], [1, 1]]),
                ([(6, 2), (3, 3)], [(0, 4), (3, -1)], [[1, 2], [1, 1]]),
                ([(3, -1), (0, 4)], [(6, 2), (3, 3)], [[1, -1], [-1, 2]]),
                ([(6, 2), (3, 0)], [(3, -1), (0, 4)], None), ([(3, 0), (6, 2)], [(3, -1), (0, 4)], None),
                (eye(3), [(0, 1, 0), (0, 0, -1), (1, 0, 0)], [[0, 0, 1], [1, 0, 0], [0, -1, 0]])):
            with self.subTest(one=one, other=other):
                self.assertEqual(made_of(one, other), wanted)

    def test_mixed_rows_either_way(self):
        for rows in many_grids():
            other = mixed(rows, 7)
            with self.subTest(rows=rows, other=other):
                self.is_table(made_of(rows, other), rows, other)
                self.is_table(made_of(other, rows), other, rows)

    def test_any_two_either_way(self):
        for pair in pairs():
            for one, other in (pair, pair[::-1]):
                with self.subTest(one=one, other=other):
                    found = made_of(one, other)
                    if lies_within(one, other):
                        self.is_table(found, one, other)
                    else:
                        self.assertIsNone(found)

    def test_a_row_taken_more_often_lies_within_but_not_about(self):
        for rows in many_grids():
            for at in range(len(rows)):
                for times in (2, 3):
                    other = taken(rows, at, times)
                    if max(abs(number) for number in other[at]) <= MOST:
                        with self.subTest(rows=rows, other=other):
                            wanted = [[0] * len(rows) for _ in rows]
                            for k in range(len(rows)):
                                wanted[k][k] = times if k == at else 1
                            self.assertEqual(made_of(other, rows), wanted)
                            self.assertIsNone(made_of(rows, other))

    def test_any_row_beside_the_grid(self):
        rows = [(2, 0, 0), (0, 2, 0), (0, 0, 2)]
        for at, place in itertools.product(range(3), repeat=2):
            other = [list(row) for row in rows]
            other[at][place] += 1
            self.assertIsNone(made_of([tuple(row) for row in other], rows))

    def test_weights_may_be_greater_than_those_taken(self):
        one = [(-MOST, MOST, 0), (MOST, 0, 0), (0, 0, MOST)]
        other = [(MOST, MOST - 1, 0), (MOST - 1, MOST - 2, 0), (MOST, MOST, 1)]
        self.is_table(made_of(one, other), one, other)
        self.assertGreater(max(abs(weight) for weights in made_of(one, other) for weight in weights), MOST * MOST)


class TwoGridsTest(KindsTest):
    def test_worked_by_hand(self):
        for one, other, both, shared in (
                ([(4,)], [(6,)], [(2,)], [(12,)]), ([(-4,)], [(6,)], [(2,)], [(12,)]), ([(5,)], [(5,)], [(5,)], [(5,)]),
                ([(MOST,)], [(MOST - 1,)], [(1,)], [(MOST * (MOST - 1),)]), ([(3,)], [(12,)], [(3,)], [(12,)]),
                ([(2, 0), (0, 3)], [(3, 0), (0, 2)], eye(2), [(6, 0), (0, 6)]),
                ([(2, 0), (0, 2)], [(1, 1), (1, -1)], [(1, 1), (0, 2)], [(2, 0), (0, 2)]),
                ([(2, 1), (-1, 2)], [(2, -1), (1, 2)], eye(2), [(5, 0), (0, 5)]),
                ([(1, 1), (0, 3)], [(1, 2), (0, 3)], eye(2), [(3, 0), (0, 3)]),
                ([(2, 0, 0), (0, 3, 0), (0, 0, 5)], [(0, 0, 2), (3, 0, 0), (0, 5, 0)], eye(3),
                 [(6, 0, 0), (0, 15, 0), (0, 0, 10)])):
            with self.subTest(one=one, other=other):
                self.assertEqual(joined(one, other), both)
                self.assertEqual(joined(other, one), both)
                self.assertEqual(common(one, other), shared)
                self.assertEqual(common(other, one), shared)

    def test_joined_is_a_stair_that_holds_both(self):
        for one, other in pairs():
            found = joined(one, other)
            with self.subTest(one=one, other=other):
                self.is_list_of_tuples(found, len(one))
                self.assertTrue(is_stair(found))
                self.assertTrue(lies_within(one, found))
                self.assertTrue(lies_within(other, found))
                self.assertEqual(joined(other, one), found)

    def test_common_is_a_stair_that_both_hold(self):
        for one, other in pairs():
            found = common(one, other)
            with self.subTest(one=one, other=other):
                self.is_list_of_tuples(found, len(one))
                self.assertTrue(is_stair(found))
                self.assertTrue(lies_within(found, one))
                self.assertTrue(lies_within(found, other))
                self.assertEqual(common(other, one), found)

    def test_bulks_multiplied(self):
        for one, other in pairs():
            with self.subTest(one=one, other=other):
                self.assertEqual(bulk_by_all_ways(joined(one, other)) * bulk_by_all_ways(common(one, other)),
                                 abs(bulk_by_all_ways(one) * bulk_by_all_ways(other)))

    def test_points_of_both_and_sums_of_both(self):
        for seed in range(12):
            one, other = some_rows(2, 4, seed), some_rows(2, 4, seed + 50)
            both, shared = joined(one, other), common(one, other)
            sums = {tuple(a + b for a, b in zip(point_by_adding(one, weights[:2]), point_by_adding(other, weights[2:])))
                    for weights in itertools.product(range(-8, 9), repeat=4)}
            for point in itertools.product(range(-6, 7), repeat=2):
                with self.subTest(one=one, other=other, point=point):
                    in_both = weights_by_bulks(one, point) is not None and weights_by_bulks(other, point) is not None
                    self.assertEqual(weights_by_bulks(shared, point) is not None, in_both)
                    if point in sums:
                        self.assertIsNotNone(weights_by_bulks(both, point))
            for row in both:
                self.assertIn(row, sums)

    def test_of_a_grid_and_itself_or_one_within(self):
        for rows in many_grids():
            with self.subTest(rows=rows):
                self.assertEqual(joined(rows, mixed(rows, 2)), stair(rows))
                self.assertEqual(common(rows, mixed(rows, 2)), stair(rows))
                self.assertEqual(joined(rows, eye(len(rows))), eye(len(rows)))
                self.assertEqual(common(rows, eye(len(rows))), stair(rows))


class HandedInAndToldTest(unittest.TestCase):
    def test_what_is_handed_in_stays_the_same(self):
        for one, other in pairs():
            kept = copy.deepcopy((one, other))
            stair(one)
            for asked in (same, made_of, joined, common):
                asked(one, other)
                asked(other, one)
            self.assertEqual((one, other), kept)

    def test_changing_what_was_told(self):
        for rows in (eye(1), eye(2), eye(3), [(7,)], [(3, 3), (0, 4)], [(2, 2, 0), (0, 3, 1), (0, 0, 5)]):
            with self.subTest(rows=rows):
                check_lists_are_new(self, stair, rows)
                for asked in (made_of, joined, common):
                    check_lists_are_new(self, asked, rows, list(rows))
                    check_lists_are_new(self, asked, rows, eye(len(rows)))
