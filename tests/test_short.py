"""`shortened`: short rows and the two tables."""

import copy
import itertools
import unittest

from shortgrid.short import shortened
from tests.samples import (FAR, HARD_GRIDS, MOST, all_rows_in, bulk_by_all_ways, check_lists_are_new, eye, flat_rows,
                           is_short, many_grids, mixed, point_by_adding, some_of, some_rows, square_of)


class ShortenedTest(unittest.TestCase):
    def is_list_of(self, kind, things, many):
        self.assertIs(type(things), list)
        self.assertEqual(len(things), many)
        for thing in things:
            self.assertIs(type(thing), kind)
            self.assertEqual(len(thing), many)
            self.assertTrue(all(type(number) is int for number in thing))

    def holds(self, rows):
        found = shortened(rows)
        self.assertIs(type(found), tuple)
        self.assertEqual(len(found), 3)
        shorts, first, second = found
        self.is_list_of(tuple, shorts, len(rows))
        self.is_list_of(list, first, len(rows))
        self.is_list_of(list, second, len(rows))
        self.assertTrue(is_short(shorts))
        self.assertEqual([point_by_adding(rows, weights) for weights in first], shorts)
        self.assertEqual([point_by_adding(shorts, weights) for weights in second], rows)

    def test_one_short_list_only_but_for_signs(self):
        for rows, wanted in (([(7,)], [(7,)]), ([(-MOST,)], [(MOST,)]), ([(5, 1), (0, 1)], [(0, 1), (5, 0)]),
                             ([(832040, 514229), (514229, 317811)], [(0, 1), (1, 0)]),
                             ([(0, 0, 3), (0, 2, 3), (1, 2, 3)], [(1, 0, 0), (0, 2, 0), (0, 0, 3)]),
                             ([(MOST, 1), (1, 0)], [(0, 1), (1, 0)]), ([(9, 0), (90, 2)], [(0, 2), (9, 0)])):
            shorts = shortened(rows)[0]
            with self.subTest(rows=rows, shorts=shorts):
                told = sorted(tuple(abs(number) for number in row) for row in shorts)
                self.assertEqual(told, sorted(wanted))

    def test_the_test_of_short_rows_itself(self):
        for rows in ([(7,)], eye(2), eye(3), [(2, 1), (-1, 2)], [(4, 0), (2, 4)], [(1, 1, 0), (1, 0, 1), (0, 1, 1)],
                     [(2, 0), (1, 2)]):
            self.assertTrue(is_short(rows), rows)
        for rows in ([(3, 0), (0, 2)], [(4, 0), (2, 3)], [(1, 0), (1, 1)], [(1, 0), (-1, 1)],
                     [(1, 1, 0), (0, 0, 1), (1, 0, 0)],
                     [(2, 1, 1), (1, 2, 1), (-2, -2, 1)], [(3, 0, 0), (0, 3, 0), (2, 2, 3)]):
            self.assertFalse(is_short(rows), rows)

    def test_many_grids(self):
        for rows in many_grids():
            with self.subTest(rows=rows):
                self.holds(rows)

    def test_mixed_rows(self):
        for rows in many_grids():
            for seed in range(4):
                other = mixed(rows, seed)
                with self.subTest(rows=other):
                    self.holds(other)
                    squares = [square_of(row) for row in shortened(other)[0]]
                    self.assertEqual(squares, [square_of(row) for row in shortened(rows)[0]])

    def test_great_numbers(self):
        for many in (1, 2, 3):
            for seed in range(60):
                for rows in (some_rows(many, MOST, seed + 1000), flat_rows(many, seed + 1000)):
                    with self.subTest(rows=rows):
                        self.holds(rows)
            for rows in itertools.product(itertools.product((-MOST, MOST - 1), repeat=many), repeat=many):
                if bulk_by_all_ways(rows) != 0:
                    self.holds(list(rows))

    def test_hard_rows_in_any_order_and_of_any_sign(self):
        for rows in HARD_GRIDS:
            for order in itertools.permutations(rows):
                for signs in itertools.product((1, -1), repeat=len(rows)):
                    other = [tuple(sign * number for number in row) for sign, row in zip(signs, order)]
                    with self.subTest(rows=other):
                        self.holds(other)

    def test_all_small_rows(self):
        for rows in itertools.chain(all_rows_in(9, 1), all_rows_in(3, 2), some_of(all_rows_in(1, 3), 5)):
            self.holds(rows)

    def test_short_rows_may_hold_greater_numbers_than_rows(self):
        for rows in ([(1, 999999, 999999), (-MOST, 500000, -MOST), (500000, 500000, -MOST)],
                     [(-MOST, 500000, MOST), (MOST, 999999, -MOST), (MOST, 0, 999999)],
                     [(-MOST, MOST, 999999), (999999, 689381, -849612), (-MOST, 0, -MOST)]):
            self.holds(rows)
            self.assertGreater(max(abs(number) for row in shortened(rows)[0] for number in row), MOST)

    def test_weights_may_be_greater_than_those_taken(self):
        rows = [(999999, -MOST, MOST), (-MOST, 999999, -MOST), (999999, MOST, 0)]
        self.holds(rows)
        self.assertGreater(max(abs(weight) for weights in shortened(rows)[1] for weight in weights), FAR)


class HandedInAndToldTest(unittest.TestCase):
    def test_what_is_handed_in_stays_the_same(self):
        for rows in many_grids():
            kept = copy.deepcopy(rows)
            shortened(rows)
            self.assertEqual(rows, kept)

    def test_changing_what_was_told(self):
        for rows in (eye(1), eye(2), eye(3), [(3, -1), (0, 4)], [(7, 7), (5, 4)], [(2, -3, 1), (4, 0, -5), (-1, 6, 7)]):
            with self.subTest(rows=rows):
                check_lists_are_new(self, shortened, rows)
