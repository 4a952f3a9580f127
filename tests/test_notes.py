"""`shown` and `read`."""

import copy
import itertools
import re
import unittest

from shortgrid.errors import BadText
from shortgrid.notes import read, shown
from tests.samples import MOST, all_rows_in, bulk_by_all_ways, check_lists_are_new, eye, many_grids, mixed, some_of

SIGNS = "".join(chr(code) for code in range(32, 127)) + "\n\r\t\v\f\0\x1f\x7f"
NUMBER = re.compile("0|-?[1-9][0-9]*")


def rows_written_so(text):
    """The rows of a text, None if it is not just what is written of rows that make a grid."""
    rows = []
    for part in text.split("; "):
        words = part.split(" ")
        if not all(NUMBER.fullmatch(word) and len(word) < 9 and -MOST <= int(word) <= MOST for word in words):
            return None
        rows.append(tuple(int(word) for word in words))
    if len(rows) > 3 or any(len(row) != len(rows) for row in rows) or bulk_by_all_ways(rows) == 0:
        return None
    return rows


class NotesCase(unittest.TestCase):
    """Shared: how texts are tried."""

    def refused(self, text):
        found = None
        try:
            read(text)
        except Exception as error:
            found = error.__class__
        self.assertIs(found, BadText, text[:99] if type(text) is str else None)

    def tried(self, text):
        wanted = rows_written_so(text)
        if wanted is None:
            self.refused(text)
        else:
            self.assertEqual(read(text), wanted)


class ShownTest(NotesCase):
    def test_worked_by_hand(self):
        for rows, wanted in (
                ([(3, -1), (0, 4)], "3 -1; 0 4"), ([(1,)], "1"), ([(-1,)], "-1"), ([(10,)], "10"), ([(7,)], "7"),
                ([(MOST,)], "1000000"), ([(-MOST,)], "-1000000"), ([(0, 1), (-1, 0)], "0 1; -1 0"),
                ([(-20, 300), (4000, -50000)], "-20 300; 4000 -50000"),
                ([(1, 0, 0), (0, -2, 0), (0, 0, 30)], "1 0 0; 0 -2 0; 0 0 30"),
                ([(MOST, -MOST, 0), (0, MOST, 1), (-1, 0, 999999)], "1000000 -1000000 0; 0 1000000 1; -1 0 999999")):
            with self.subTest(rows=rows):
                found = shown(rows)
                self.assertIs(type(found), str)
                self.assertEqual(found, wanted)
                self.assertEqual(read(wanted), rows)

    def test_any_other_rows_of_a_grid_have_another_text(self):
        self.assertNotEqual(shown([(3, -1), (0, 4)]), shown([(0, 4), (3, -1)]))
        self.assertNotEqual(shown([(3, -1), (0, 4)]), shown([(3, 3), (0, 4)]))
        texts = [shown(rows) for rows in all_rows_in(2, 2)]
        self.assertEqual(len(set(texts)), len(texts))

    def test_what_is_handed_in_stays_the_same(self):
        for rows in many_grids():
            kept = copy.deepcopy(rows)
            shown(rows)
            self.assertEqual(rows, kept)


class ReadTest(NotesCase):
    def gives_back(self, rows):
        found = read(shown(rows))
        self.assertEqual(found, rows)
        self.assertIs(type(found), list)
        for row in found:
            self.assertIs(type(row), tuple)
            self.assertTrue(all(type(number) is int for number in row))

    def test_what_is_shown_is_read(self):
        for seed, rows in enumerate(many_grids()):
            self.gives_back(rows)
            self.gives_back(mixed(rows, seed))
        for rows in itertools.chain(all_rows_in(20, 1), all_rows_in(2, 2), some_of(all_rows_in(1, 3), 5)):
            self.gives_back(rows)

    def test_bad_texts(self):
        for text in ("", " ", ";", "; ", "-", "--1", "- 1", "-1-", "1-", "+1", "+", "0x1", "1e3", "1.0", "1.", "1_000",
                     "1,0", "one", "None", "True", "nan", "[(1,)]", "(1,)", "01", "-01", "001", "00", "-0", "+0", "0",
                     " 1", "1 ", "1\n", "\n1", "1\t", "\t1", "1\r\n", "1;", "1; ", ";1", "; 1", "1;;", "1; ;", "1 1",
                     "1; 1", "1;1"):
            with self.subTest(text=text):
                self.assertIsNone(rows_written_so(text))
                self.refused(text)

    def test_bad_texts_of_two_and_three_rows(self):
        for text in ("3 -1;0 4", "3 -1 0 4", "3 -1 ; 0 4", "3 -1;  0 4", "3  -1; 0 4", " 3 -1; 0 4", "3 -1; 0 4 ",
                     "3 -1;; 0 4", "3 -1; ; 0 4", "3 -1; 0 4;", "3 -1; 0 4; ", "; 3 -1; 0 4", ";3 -1; 0 4",
                     "3 -1;\n0 4", "3 -1\n0 4", "3 -1; 0 4\n", "3\t-1; 0 4", "3 -1;\t0 4", "3 -1, 0 4", "3, -1; 0, 4",
                     "3 - 1; 0 4", "3 -1; 0 04", "3 -1; 00 4", "3 -1; -0 4", "3 -1; +0 4", "3 +1; 0 4", "3 -01; 0 4",
                     "3 -1; 4", "3; 0 4", "3 -1 2; 0 4", "3 -1; 0 4 5", "3 -1", "3 -1; 0 4; 5 6", "3 -1; 0 4; 5 6 7",
                     "3 -1 0; 0 4 0", "3 -1 0; 0 4 0; 0 0", "3 -1 0; 0 4 0; 0 0 1 ", "3 -1 0; 0 4 0;0 0 1",
                     "3 -1 0; 0 4 0; 0 0 1 1", "3 -1 0; 0 4 0; 0 0 1;", "3; -1; 0; 4", "1; 2; 3",
                     "1 0 0 0; 0 1 0 0; 0 0 1 0; 0 0 0 1", "1 0 0; 0 1 0; 0 0 1; 0 0 0", "1 0; 0 1; 0 0; 0 0",
                     "1 0 0; 0 1 0; 0 0 1; 1 1 1"):
            with self.subTest(text=text):
                self.assertIsNone(rows_written_so(text))
                self.refused(text)

    def test_rows_without_bulk(self):
        for text in ("0", "0 0; 0 0", "1 2; 1 2", "1 2; -2 -4", "0 0; 1 2", "0 1; 0 2", "1 2 3; 4 5 6; 5 7 9",
                     "0 0 0; 0 0 0; 0 0 0", "1 2 3; 4 5 6; 1 2 3", "1000000 -1000000; -1000000 1000000"):
            self.refused(text)

    def test_numbers_beyond(self):
        for number in (MOST, -MOST, MOST - 1, 1 - MOST):
            self.assertEqual(read(f"{number}"), [(number,)])
            self.assertEqual(read(f"1 {number}; 0 1"), [(1, number), (0, 1)])
            self.assertEqual(read(f"1 0 0; 0 1 0; {number} 0 1"), [(1, 0, 0), (0, 1, 0), (number, 0, 1)])
        for number in (MOST + 1, -MOST - 1, 9999999, -9999999, 10 ** 12, -10 ** 12, 10 ** 40, -10 ** 40, 10 ** 899):
            self.refused(f"{number}")
            self.refused(f"1 {number}; 0 1")
            self.refused(f"1 0 0; 0 1 0; {number} 0 1")

    def test_very_long_texts(self):
        for text in ("9" * 5000, "0" * 5000, "0" * 5000 + "1", "-" + "1" * 100000, " " * 100000, "; " * 50000,
                     "1 " * 50000 + "1", "1; " * 50000 + "1", "1 0; 0 " + "7" * 4301, "-" * 100000, ";" * 100000):
            self.refused(text)

    def test_any_sign_more_or_less_or_another(self):
        for text in ("7", "-1000000", "3 -1; 0 4", "10 0; -20 1", "1 0 0; 0 -2 5; 30 0 4"):
            for at in range(len(text) + 1):
                self.tried(text[:at] + text[at + 1:])
                self.tried(text[:at] + text[at + 2:])
                for sign in SIGNS:
                    self.tried(text[:at] + sign + text[at:])
                    self.tried(text[:at] + sign + text[at + 1:])

    def test_all_short_texts(self):
        for many in range(7):
            for signs in itertools.product("01-; ", repeat=many):
                self.tried("".join(signs))

    def test_parts_in_any_order(self):
        parts = ("1", "0", "-1", " ", "; ", ";", "-")
        for some in some_of(itertools.product(parts, repeat=7), 41):
            self.tried("".join(some))
        for some in itertools.product(("1", "0", "-3", "-0", "01", "", "1 "), repeat=4):
            self.tried("{} {}; {} {}".format(*some))

    def test_changing_what_was_told(self):
        for rows in (eye(1), eye(2), eye(3), [(3, -1), (0, 4)]):
            check_lists_are_new(self, read, shown(rows))
