"""The refusals: how their classes stand to each other."""

import unittest

from shortgrid import errors

NAMES = ("BadRows", "BadPoint", "BadWeights", "BadSpot", "BadText", "TooMany")


class ErrorsTest(unittest.TestCase):
    def test_grid_error_is_a_value_error(self):
        self.assertTrue(issubclass(errors.GridError, ValueError))

    def test_each_stands_straight_under_grid_error(self):
        for name in NAMES:
            with self.subTest(name=name):
                self.assertEqual(getattr(errors, name).__bases__, (errors.GridError,))

    def test_none_stands_under_another(self):
        for name in NAMES:
            for other in NAMES:
                if name != other:
                    with self.subTest(name=name, other=other):
                        self.assertFalse(issubclass(getattr(errors, name), getattr(errors, other)))

    def test_each_is_caught_as_grid_error_and_tells_its_message(self):
        for name in NAMES:
            with self.subTest(name=name):
                with self.assertRaises(errors.GridError) as caught:
                    raise getattr(errors, name)("why")
                self.assertEqual(str(caught.exception), "why")

    def test_each_is_defined_in_its_file(self):
        for name in NAMES + ("GridError",):
            with self.subTest(name=name):
                self.assertEqual(getattr(errors, name).__module__, "shortgrid.errors")
                self.assertEqual(getattr(errors, name).__name__, name)
