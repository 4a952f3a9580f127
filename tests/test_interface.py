"""The interface: its names, their files and their arguments."""

import importlib
import inspect
import unittest

from shortgrid import errors

FUNCTIONS = {
    "numbers": {"rounded": ["top", "by"], "root": ["number"]},
    "grids": {"bulk": ["rows"], "counters": ["rows"], "point_of": ["rows", "weights"],
              "weights_of": ["rows", "point"], "square": ["step"]},
    "stairs": {"stair": ["rows"], "same": ["one", "other"], "made_of": ["one", "other"], "joined": ["one", "other"],
               "common": ["one", "other"]},
    "short": {"shortened": ["rows"]},
    "least": {"shortest": ["rows"]},
    "near": {"nearest": ["rows", "spot"]},
    "rests": {"rest": ["rows", "point"], "rests": ["rows"], "index": ["one", "other"]},
    "notes": {"shown": ["rows"], "read": ["text"]},
}
TAKEN = {"top": 7, "by": 2, "number": 17, "rows": [(3, -1), (0, 4)], "weights": [2, 1], "point": (6, 2),
         "step": (3, -4), "one": [(6, 2), (0, 8)], "other": [(3, -1), (0, 4)], "spot": ((5, 5), 2), "text": "3 -1; 0 4"}


class InterfaceTest(unittest.TestCase):
    def test_each_function_is_in_its_file_and_takes_its_arguments(self):
        for file, functions in FUNCTIONS.items():
            module = importlib.import_module(f"shortgrid.{file}")
            for name, arguments in functions.items():
                with self.subTest(file=file, name=name):
                    function = getattr(module, name)
                    self.assertTrue(inspect.isfunction(function))
                    self.assertEqual(function.__module__, module.__name__)
                    self.assertEqual(list(inspect.signature(function).parameters), arguments)

    def test_arguments_by_place_and_by_name(self):
        for file, functions in FUNCTIONS.items():
            module = importlib.import_module(f"shortgrid.{file}")
            for name, arguments in functions.items():
                with self.subTest(file=file, name=name):
                    function = getattr(module, name)
                    named = {argument: TAKEN[argument] for argument in arguments}
                    self.assertEqual(function(**named), function(*named.values()))

    def test_all_refusals_are_raised_by_the_program_itself(self):
        # One of each kind, caught by GridError and by ValueError.
        near, rests, notes, grids = (importlib.import_module(f"shortgrid.{file}")
                                     for file in ("near", "rests", "notes", "grids"))
        for kind, asked, told in (
                (errors.BadRows, grids.bulk, [None]), (errors.BadPoint, rests.rest, [[(1,)], None]),
                (errors.BadWeights, grids.point_of, [[(1,)], None]), (errors.BadSpot, near.nearest, [[(1,)], None]),
                (errors.BadText, notes.read, [None]), (errors.TooMany, rests.rests, [[(401,)]])):
            for caught in (kind, errors.GridError, ValueError):
                with self.subTest(kind=kind.__name__, caught=caught.__name__):
                    with self.assertRaises(caught) as found:
                        asked(*told)
                    self.assertIs(type(found.exception), kind)
