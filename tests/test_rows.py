"""Rows: point 21, and what point 24 says of rows."""

import random
import unittest

from movedstates.errors import BadKind
from movedstates.kinds import KIND_NAMES, plain_value
from movedstates.rows import joined_rows, put_in_row, row_from, row_holes, row_values
from tests.helpers import NOT_KINDS

ENTRIES = [6, (7, 8), (3, 5), 5, (3, 5), 6, (1, 2), 5]


class RowFromTest(unittest.TestCase):

    def test_each_kind(self):
        wanted = {
            "list": (6, (7, 8), (3, 5), 5, (3, 5), 6, (1, 2), 5),
            "bag": (5, 5, 6, 6, (1, 2), (3, 5), (3, 5), (7, 8)),
            "set": (5, 6, (1, 2), (3, 5), (3, 5), (7, 8)),
            "first": (6,), "last": (5,), "ends": (6, 5),
            "heads": (6, (7, 8), (3, 5), 5, (3, 5), (1, 2)),
            "tails": ((7, 8), (3, 5), (3, 5), 6, (1, 2), 5),
        }
        for kind in KIND_NAMES:
            with self.subTest(kind):
                self.assertEqual(row_from(kind, ENTRIES), wanted[kind])
                self.assertEqual(row_from(kind, tuple(ENTRIES)), wanted[kind])

    def test_the_list_stays(self):
        for kind in KIND_NAMES:
            entries = list(ENTRIES)
            row_from(kind, entries)
            self.assertEqual(entries, ENTRIES)

    def test_no_entries_and_one(self):
        for kind in KIND_NAMES:
            self.assertEqual(row_from(kind, []), ())
            self.assertEqual(row_from(kind, [4]), (4, 4) if kind == "ends" else (4,))
            outer = kind in ("first", "last", "ends")
            self.assertEqual(row_from(kind, [(1, 2)]), () if outer else ((1, 2),))

    def test_values_are_the_plain_value(self):
        source = random.Random(21)
        for _ in range(200):
            entries = [source.choice((5, 6, 7, (source.randint(0, 3), 4))) for _ in range(source.randint(0, 8))]
            for kind in KIND_NAMES:
                row = row_from(kind, entries)
                self.assertEqual(row_values(row), list(plain_value(kind, row_values(entries))))
                if kind in ("list", "heads", "tails"):
                    self.assertEqual(row_holes(row), row_holes(entries))

    def test_example(self):
        found = [row_from("tails", [5, (1, 2), 5, (3, 4), 6]), row_from("set", [6, (3, 4), 5, (1, 2), 6])]
        self.assertEqual(found, [((1, 2), 5, (3, 4), 6), (5, 6, (1, 2), (3, 4))])


class PartsTest(unittest.TestCase):

    def test_values_and_holes(self):
        self.assertEqual(row_values(ENTRIES), [6, 5, 6, 5])
        self.assertEqual(row_holes(ENTRIES), [(7, 8), (3, 5), (3, 5), (1, 2)])
        self.assertEqual(row_values((4, (1, 2))), [4])
        self.assertEqual(row_holes((4, (1, 2))), [(1, 2)])
        self.assertEqual([row_values(()), row_holes(())], [[], []])


class PutTest(unittest.TestCase):

    def test_a_hole_is_split_cut_or_filled(self):
        row = (5, (1, 4), 6)
        self.assertEqual(put_in_row("list", row, 2, 9), (5, (1, 2), 9, (3, 4), 6))
        self.assertEqual(put_in_row("list", row, 1, 9), (5, 9, (2, 4), 6))
        self.assertEqual(put_in_row("list", row, 3, 9), (5, (1, 3), 9, 6))
        self.assertEqual(put_in_row("list", (5, (1, 2), 6), 1, 9), (5, 9, 6))

    def test_the_right_hole_of_several(self):
        row = (5, (1, 3), 6, (4, 6), 7)
        self.assertEqual(put_in_row("list", row, 4, 9), (5, (1, 3), 6, 9, (5, 6), 7))
        self.assertEqual(put_in_row("list", row, 2, 9), (5, (1, 2), 9, 6, (4, 6), 7))

    def test_kinds(self):
        self.assertEqual(put_in_row("bag", (5, 7, (1, 4)), 2, 5), (5, 5, 7, (1, 2), (3, 4)))
        self.assertEqual(put_in_row("set", (5, 7, (1, 4)), 2, 5), (5, 7, (1, 2), (3, 4)))
        self.assertEqual(put_in_row("set", (5, 7, (1, 4)), 2, 6), (5, 6, 7, (1, 2), (3, 4)))
        self.assertEqual(put_in_row("heads", (5, (1, 4), 6), 2, 6), (5, (1, 2), 6, (3, 4)))
        self.assertEqual(put_in_row("heads", (5, (1, 4), 6), 2, 5), (5, (1, 2), (3, 4), 6))
        self.assertEqual(put_in_row("tails", (5, (1, 4), 6), 2, 5), ((1, 2), 5, (3, 4), 6))
        self.assertEqual(put_in_row("tails", (5, (1, 4), 6), 2, 6), (5, (1, 2), (3, 4), 6))


class JoinedTest(unittest.TestCase):

    def test_with_a_hole_and_without(self):
        self.assertEqual(joined_rows("list", (5, (1, 2), 6), (3, 5), (6,)), (5, (1, 2), 6, (3, 5), 6))
        self.assertEqual(joined_rows("list", (5,), None, (6,)), (5, 6))
        self.assertEqual(joined_rows("heads", (5, 6), (3, 5), (6, 7)), (5, 6, (3, 5), 7))
        self.assertEqual(joined_rows("tails", (5, 6), (3, 5), (6, 7)), (5, (3, 5), 6, 7))
        self.assertEqual(joined_rows("bag", (5, 6, (1, 2)), (4, 5), (3, 6, (7, 8))), (3, 5, 6, 6, (1, 2), (4, 5), (7, 8)))
        self.assertEqual(joined_rows("set", (5, 6, (1, 2)), None, (3, 6)), (3, 5, 6, (1, 2)))
        self.assertEqual(joined_rows("first", (5,), (3, 5), (6,)), (5,))
        self.assertEqual(joined_rows("last", (5,), (3, 5), (6,)), (6,))
        self.assertEqual(joined_rows("ends", (5, 7), None, (6, 8)), (5, 8))


class ErrorsTest(unittest.TestCase):

    def test_bad_kind_comes_first(self):
        calls = [lambda kind: row_from(kind, []), lambda kind: put_in_row(kind, (5, (1, 2)), 1, 4),
                 lambda kind: joined_rows(kind, (5,), None, (6,))]
        for call in calls:
            for thing in NOT_KINDS:
                with self.assertRaises(BadKind) as caught:
                    call(thing)
                self.assertIs(caught.exception.name, thing)


if __name__ == "__main__":
    unittest.main()
