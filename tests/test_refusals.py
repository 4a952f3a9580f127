"""What is refused, and by which class."""

import decimal
import fractions
import unittest

from shortgrid.errors import BadPoint, BadRows, BadSpot, BadText, BadWeights, TooMany
from shortgrid.grids import bulk, counters, point_of, weights_of
from shortgrid.least import shortest
from shortgrid.near import nearest
from shortgrid.notes import read, shown
from shortgrid.rests import index, rest, rests
from shortgrid.short import shortened
from shortgrid.stairs import common, joined, made_of, same, stair
from tests.samples import FAR, MOST, eye


class Hostile:
    """A thing that fails in whatever it is asked."""

    def fail(self, *told):
        raise RuntimeError("asked")

    __eq__ = __ne__ = __lt__ = __le__ = __gt__ = __ge__ = __hash__ = fail
    __len__ = __iter__ = __getitem__ = __contains__ = __bool__ = fail
    __index__ = __int__ = __neg__ = __add__ = __mul__ = __rmul__ = __str__ = __repr__ = __format__ = fail


class Listing:
    """A thing that can be gone through like rows, but is no list."""

    def __len__(self):
        return 1

    def __iter__(self):
        return iter([(1,)])

    def __getitem__(self, at):
        return [(1,)][at]


NO_NUMBERS = (True, False, "1", "", None, 1.0, 0.0, float("nan"), float("inf"), 1j, fractions.Fraction(1),
              decimal.Decimal(1), b"1", (1,), [1], {}, set(), object(), int, Hostile(), Listing())
NO_SEQUENCES = (None, "", "1", "12", "123", b"", b"1", b"123", 0, 1, 3, True, False, 1.5, {}, {0: 1, 1: 2}, set(),
                {1, 2}, frozenset({1}), range(2), iter([1, 2]), object(), list, tuple, Hostile(), Listing())


def with_number(rows, at, place, number):
    changed = [list(row) for row in rows]
    changed[at][place] = number
    return [tuple(row) for row in changed]


def with_row(rows, at, row):
    return rows[:at] + [row] + rows[at + 1:]


def nested_in_itself():
    rows = []
    rows.append(rows)
    return rows


def bad_rows_by_shape():
    yield from NO_SEQUENCES
    yield from ([], (), ((1,),), ((1, 0), (0, 1)), {(1,)}, {(1,): 1}, [[1]], [1], [None], ["1"], [()])
    yield from ([(1, 0)], [(), ()], [(1,), (1,)], [(1, 0), (0,)], [(1, 0), (0, 1, 0)], [(1, 0, 0), (0, 1, 0)])
    yield nested_in_itself()
    yield eye(4)
    yield [(1, 0, 0)] + eye(3)
    yield eye(3)[:2]
    yield eye(2) * 3


def bad_rows_by_row():
    for many in (1, 2, 3):
        rows = eye(many)
        for at in range(many):
            for row in NO_SEQUENCES:
                yield with_row(rows, at, row)
            good = rows[at]
            for row in (list(good), set(good), good + (0,), good[1:], good[:-1], (), [], (good,)):
                yield with_row(rows, at, row)


def bad_rows_by_number():
    for many in (1, 2, 3):
        for at in range(many):
            for place in range(many):
                for number in NO_NUMBERS + (MOST + 1, -MOST - 1, 10 ** 40, -10 ** 40):
                    yield with_number(eye(many), at, place, number)


def all_bad_rows():
    yield from bad_rows_by_shape()
    yield from bad_rows_by_row()
    yield from bad_rows_by_number()


NO_GRIDS = ([(0,)], [(0, 0), (0, 0)], [(1, 2), (1, 2)], [(1, 2), (-2, -4)], [(0, 0), (1, 2)],
            [(1, 2, 3), (4, 5, 6), (5, 7, 9)], [(1, 2, 3), (4, 5, 6), (1, 2, 3)], [(0, 0, 0), (4, 5, 6), (1, 2, 3)],
            [(MOST, -MOST), (-MOST, MOST)])


def bad_numbers_of(kind, many):
    """Lists or tuples of which one number is none."""
    for at in range(many):
        for number in NO_NUMBERS + (FAR + 1, -FAR - 1, 10 ** 40, -10 ** 40):
            numbers = [1] * many
            numbers[at] = number
            yield kind(numbers)


def bad_points(many):
    yield from NO_SEQUENCES
    yield from ([1] * many, [], (), (1,) * (many + 1), (1,) * (many - 1), (1,) * 4, [(1,) * many], ((1,) * many,))
    yield from bad_numbers_of(tuple, many)


def bad_weights(many):
    yield from NO_SEQUENCES
    yield from ((1,) * many, (), [], [1] * (many + 1), [1] * (many - 1), [1] * 4, [[1] * many], ([1] * many,))
    yield nested_in_itself()
    yield from bad_numbers_of(list, many)


def bad_spots(many):
    good = (1,) * many
    yield from NO_SEQUENCES
    yield from ((), [], (good,), (good, 1, 1), [good, 1], (1, good), (good, good), good + (1,), ((good, 1),), {good: 1})
    yield nested_in_itself()
    for numbers in bad_points(many):
        yield numbers, 1
    for by in NO_NUMBERS + (0, -1, -MOST, MOST + 1, FAR, 10 ** 40, -10 ** 40):
        yield good, by
    for numbers in (None, list(good), good + (0,), good[1:], (None,) * many, (FAR + 1,) * many):
        for by in (0, None, True, MOST + 1):
            yield numbers, by


def no_texts():
    yield from (thing for thing in NO_NUMBERS + NO_SEQUENCES if type(thing) is not str)
    yield from ([(1,)], [(3, -1), (0, 4)], (1,), ["1"], ("1",), {"1": 1}, [], (), b"3 -1; 0 4", bytearray(b"1"))
    yield nested_in_itself()


OF_ONE = (stair, shortened, shortest, rests, shown)
OF_TWO = (same, made_of, joined, common, index)
OF_POINT = (weights_of, rest)


class RefusalsTest(unittest.TestCase):
    def refused(self, kind, asked, *told):
        # The things that fail when shown stay out of the message, so only the class is compared.
        found = None
        try:
            asked(*told)
        except Exception as error:
            found = error.__class__
        self.assertIs(found, kind, asked.__name__)

    def test_bad_rows(self):
        for many, rows in enumerate(all_bad_rows()):
            with self.subTest(which=many):
                self.refused(BadRows, bulk, rows)
                self.refused(BadRows, counters, rows)
                for size in (1, 2, 3):
                    self.refused(BadRows, point_of, rows, [1] * size)
                    for asked in OF_POINT:
                        self.refused(BadRows, asked, rows, (1,) * size)
                    self.refused(BadRows, nearest, rows, ((1,) * size, 1))

    def test_rows_without_bulk(self):
        for rows in NO_GRIDS:
            with self.subTest(rows=rows):
                self.assertEqual(bulk(rows), 0)
                self.refused(BadRows, counters, rows)
                self.refused(BadRows, point_of, rows, [0] * len(rows))
                for asked in OF_POINT:
                    self.refused(BadRows, asked, rows, (0,) * len(rows))
                self.refused(BadRows, nearest, rows, ((0,) * len(rows), 1))

    def test_rows_at_their_bounds_are_taken(self):
        for many in (1, 2, 3):
            for at in range(many):
                for place in range(many):
                    for number in (MOST, -MOST):
                        rows = with_number(eye(many), at, place, number)
                        with self.subTest(rows=rows):
                            self.assertEqual(bulk(rows), number if at == place else 1)
                            self.assertEqual(len(counters(rows)), many)
                            self.assertEqual(point_of(rows, [0] * many), (0,) * many)
                            self.assertEqual(weights_of(rows, (0,) * many), [0] * many)
                            self.assertEqual(rest(rows, (0,) * many), (0,) * many)
                            self.assertEqual(nearest(rows, ((0,) * many, 1))[0], (0,) * many)

    def test_bad_points(self):
        for many in (1, 2, 3):
            for which, point in enumerate(bad_points(many)):
                for asked in OF_POINT:
                    with self.subTest(many=many, which=which, asked=asked.__name__):
                        self.refused(BadPoint, asked, eye(many), point)

    def test_bad_weights(self):
        for many in (1, 2, 3):
            for which, weights in enumerate(bad_weights(many)):
                with self.subTest(many=many, which=which):
                    self.refused(BadWeights, point_of, eye(many), weights)

    def test_bad_spots(self):
        for many in (1, 2, 3):
            for which, spot in enumerate(bad_spots(many)):
                with self.subTest(many=many, which=which):
                    self.refused(BadSpot, nearest, eye(many), spot)
                    # This one has a box of too many lists of weights for whatever spot is halfway along it.
                    self.refused(BadSpot, nearest, eye(many)[:-1] + [(0,) * (many - 1) + (MOST,)], spot)

    def test_spots_at_their_bounds_are_taken(self):
        for many in (1, 2, 3):
            for at in range(many):
                for number in (FAR, -FAR, 0):
                    for by in (1, 2, MOST - 1, MOST):
                        numbers = [0] * many
                        numbers[at] = number
                        self.refused(None, nearest, eye(many), (tuple(numbers), by))

    def test_what_is_no_text(self):
        for which, text in enumerate(no_texts()):
            with self.subTest(which=which):
                self.refused(BadText, read, text)

    def test_points_and_weights_at_their_bounds_are_taken(self):
        for many in (1, 2, 3):
            for at in range(many):
                for number in (FAR, -FAR):
                    numbers = [1] * many
                    numbers[at] = number
                    with self.subTest(numbers=numbers):
                        self.assertEqual(point_of(eye(many), numbers), tuple(numbers))
                        self.assertEqual(weights_of(eye(many), tuple(numbers)), numbers)
                        self.assertEqual(rest(eye(many), tuple(numbers)), (0,) * many)

    def test_bad_rows_come_ahead_of_points_weights_and_spots(self):
        for rows in (None, (), [], [[1]], [(1.0,)], [(True,)], [(MOST + 1,)], eye(4)) + NO_GRIDS:
            for many in (1, 2, 3):
                for point in bad_points(many):
                    for asked in OF_POINT:
                        self.refused(BadRows, asked, rows, point)
                for weights in bad_weights(many):
                    self.refused(BadRows, point_of, rows, weights)
                for spot in bad_spots(many):
                    self.refused(BadRows, nearest, rows, spot)

    def test_bad_rows_of_one_list(self):
        for many, rows in enumerate(all_bad_rows()):
            for asked in OF_ONE:
                with self.subTest(which=many, asked=asked.__name__):
                    self.refused(BadRows, asked, rows)

    def test_bad_rows_in_either_place(self):
        for many, rows in enumerate(all_bad_rows()):
            for asked in OF_TWO:
                for size in (1, 2, 3):
                    with self.subTest(which=many, asked=asked.__name__, size=size):
                        self.refused(BadRows, asked, rows, eye(size))
                        self.refused(BadRows, asked, eye(size), rows)

    def test_bad_rows_in_both_places(self):
        for rows in (None, [], [(True,)], [(1.5, 0), (0, 1)], eye(4), Hostile()) + NO_GRIDS:
            for other in (None, [], [(MOST + 1,)], [[1, 0], [0, 1]], eye(4), Hostile()) + NO_GRIDS:
                for asked in OF_TWO:
                    self.refused(BadRows, asked, rows, other)

    def test_rows_without_bulk_in_any_place(self):
        for rows in NO_GRIDS:
            for asked in OF_ONE:
                with self.subTest(rows=rows, asked=asked.__name__):
                    self.refused(BadRows, asked, rows)
            for asked in OF_TWO:
                for size in (1, 2, 3):
                    with self.subTest(rows=rows, asked=asked.__name__, size=size):
                        self.refused(BadRows, asked, rows, eye(size))
                        self.refused(BadRows, asked, eye(size), rows)

    def test_lists_of_unlike_many_rows(self):
        for asked in OF_TWO:
            for one in (1, 2, 3):
                for other in (1, 2, 3):
                    with self.subTest(asked=asked.__name__, one=one, other=other):
                        self.refused(None if one == other else BadRows, asked, eye(one), eye(other))

    def test_rows_at_their_bounds_are_taken_by_all(self):
        for many in (1, 2, 3):
            for at in range(many):
                for place in range(many):
                    for number in (MOST, -MOST):
                        rows = with_number(eye(many), at, place, number)
                        for asked in OF_ONE:
                            told = TooMany if asked is rests and at == place else None
                            self.refused(told, asked, rows)
                        for asked in OF_TWO:
                            self.refused(None, asked, rows, eye(many))
                            self.refused(None, asked, eye(many), rows)
