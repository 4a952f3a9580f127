"""`rounded` and `root`."""

import unittest

from shortgrid.numbers import root, rounded

FORTY = 1234567890123456789012345678901234567891
OTHER_FORTY = 9876543210987654321098765432109876543210


class RoundedTest(unittest.TestCase):
    def told(self, top, by, wanted):
        with self.subTest(top=top, by=by):
            found = rounded(top, by)
            self.assertEqual(found, wanted)
            self.assertIs(type(found), int)

    def test_at_nought_and_on_both_sides(self):
        for top, by, wanted in ((0, 1, 0), (0, 7, 0), (1, 3, 0), (2, 3, 1), (3, 3, 1), (22, 7, 3), (25, 7, 4),
                                (-1, 3, 0), (-2, 3, -1), (-3, 3, -1), (-22, 7, -3), (-25, 7, -4)):
            self.told(top, by, wanted)

    def test_just_halfway_the_greater_one(self):
        for top, by, wanted in ((1, 2, 1), (3, 2, 2), (5, 2, 3), (7, 2, 4), (5, 10, 1), (15, 10, 2), (25, 10, 3),
                                (-1, 2, 0), (-3, 2, -1), (-5, 2, -2), (-7, 2, -3), (-5, 10, 0), (-15, 10, -1),
                                (-25, 10, -2)):
            self.told(top, by, wanted)

    def test_beside_halfway(self):
        for top, by, wanted in ((4, 10, 0), (6, 10, 1), (14, 10, 1), (16, 10, 2),
                                (-4, 10, 0), (-6, 10, -1), (-14, 10, -1), (-16, 10, -2)):
            self.told(top, by, wanted)

    def test_by_one(self):
        for top in (-OTHER_FORTY, -2, -1, 0, 1, 2, FORTY):
            self.told(top, 1, top)

    def test_no_other_number_is_as_near_or_nearer_and_greater(self):
        for by in range(1, 14):
            for top in range(-60, 61):
                found = rounded(top, by)
                with self.subTest(top=top, by=by):
                    self.assertLessEqual(abs(top - found * by), abs(top - (found - 1) * by))
                    self.assertLess(abs(top - found * by), abs(top - (found + 1) * by))

    def test_forty_figures(self):
        half = (FORTY - 1) // 2
        for times in (OTHER_FORTY, -OTHER_FORTY):
            self.told(times * FORTY, FORTY, times)
            self.told(times * FORTY + half, FORTY, times)
            self.told(times * FORTY + half + 1, FORTY, times + 1)
            self.told(times * FORTY - half, FORTY, times)
            self.told(times * FORTY - half - 1, FORTY, times - 1)

    def test_forty_figures_about_halfway(self):
        for times in (FORTY, -FORTY, 0):
            middle = times * OTHER_FORTY + OTHER_FORTY // 2
            self.told(middle - 1, OTHER_FORTY, times)
            self.told(middle, OTHER_FORTY, times + 1)
            self.told(middle + 1, OTHER_FORTY, times + 1)


class RootTest(unittest.TestCase):
    def told(self, number, wanted):
        with self.subTest(number=number):
            found = root(number)
            self.assertEqual(found, wanted)
            self.assertIs(type(found), int)

    def test_first_numbers(self):
        for number, wanted in ((0, 0), (1, 1), (2, 1), (3, 1), (4, 2), (5, 2), (8, 2), (9, 3), (10, 3)):
            self.told(number, wanted)

    def test_squares_and_beside_them(self):
        for number in list(range(2, 200)) + [10 ** 6, 10 ** 12]:
            self.told(number * number - 1, number - 1)
            self.told(number * number, number)
            self.told(number * number + 1, number)

    def test_forty_figures(self):
        for number in (10 ** 20 - 1, 31622776601683793320, 98765432109876543210, FORTY, OTHER_FORTY):
            self.told(number * number - 1, number - 1)
            self.told(number * number, number)
            self.told(number * number + 1, number)
            self.told(number * number + 2 * number, number)
        self.told(10 ** 39, 31622776601683793319)
