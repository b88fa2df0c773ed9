"""Boards: points 1 and 18."""

import unittest

from movedstates.boards import Board

REPORTS = [("b", 1, 3, (5,)), ("a", 2, 2, (5, 6)), ("b", 7, 9, (4,)), ("a", 3, 4, (5,)), ("ab", 0, 0, (1,))]
IN_ORDER = [("a", 2, 2, (5, 6)), ("a", 3, 4, (5,)), ("ab", 0, 0, (1,)), ("b", 1, 3, (5,)), ("b", 7, 9, (4,))]


def board_of(reports):
    board = Board()
    for report in reports:
        board.take(report)
    return board


class BoardTest(unittest.TestCase):

    def test_at_first(self):
        board = Board()
        self.assertEqual([board.rows(), list(board), len(board), board.repeats, board.reports_of("a")], [[], [], 0, 0, []])
        self.assertEqual(board.listing(), [])

    def test_rows_and_reports(self):
        board = board_of(REPORTS)
        self.assertEqual(board.rows(), IN_ORDER)
        self.assertEqual(list(board), IN_ORDER)
        self.assertEqual(len(board), 5)
        self.assertEqual(board.reports_of("b"), [("b", 1, 3, (5,)), ("b", 7, 9, (4,))])
        self.assertEqual(board.reports_of("c"), [])

    def test_repeats(self):
        board = Board()
        taken = [board.take(("a", 1, 3, (5,))), board.take(("a", 1, 3, (5,))), board.take(("a", 3, 8, (6,))),
                 board.take(("a", -4, 0, (6,))), board.take(("b", 0, 0, (6,))), board.take(("a", 4, 5, (6,))),
                 board.take(("a", 3, 3, (5,)))]
        self.assertEqual(taken, [True, False, False, False, True, True, False])
        self.assertEqual(board.repeats, 4)
        self.assertEqual(board.rows(), [("a", 1, 3, (5,)), ("a", 4, 5, (6,)), ("b", 0, 0, (6,))])

    def test_only_the_last_report_counts(self):
        board = board_of([("a", 1, 9, (5,)), ("a", 10, 10, (5,))])
        self.assertIs(board.take(("a", 10, 20, (6,))), False)
        self.assertIs(board.take(("a", 11, 20, (6,))), True)

    def test_in(self):
        board = board_of(REPORTS)
        self.assertIs(("a", 3, 4, (5,)) in board, True)
        self.assertIs(("a", 3, 4, (6,)) in board, False)
        self.assertIs(("c", 3, 4, (5,)) in board, False)
        self.assertIs(None in board, False)

    def test_returned_lists_are_new(self):
        board = board_of(REPORTS)
        board.rows().clear()
        board.reports_of("a").append(1)
        board.listing().append(1)
        self.assertEqual(board.rows(), IN_ORDER)
        self.assertEqual(len(board.reports_of("a")), 2)
        self.assertEqual(len(board.listing()), 5)

    def test_equality(self):
        board = board_of(REPORTS)
        other = board_of([REPORTS[1], REPORTS[4], REPORTS[0], REPORTS[0], REPORTS[2], REPORTS[3]])
        self.assertEqual(other.repeats, 1)
        self.assertIs(board == other, True)
        self.assertIs(board != other, False)
        self.assertIs(board == board_of(REPORTS[:4]), False)
        self.assertIs(board == board_of(REPORTS[:4] + [("ab", 0, 0, (2,))]), False)
        self.assertIs(Board() == Board(), True)

    def test_equality_with_what_is_no_board(self):
        for thing in (None, 0, [], IN_ORDER, "board", object()):
            self.assertIs(board_of(REPORTS) == thing, False)
            self.assertIs(Board() == thing, False)

    def test_twin(self):
        board = board_of(REPORTS + REPORTS[:1])
        twin = board.twin()
        self.assertEqual([twin.rows(), twin.repeats], [IN_ORDER, 1])
        twin.take(("a", 9, 9, (1,)))
        twin.take(("a", 9, 9, (1,)))
        self.assertEqual([board.rows(), board.repeats, len(twin), twin.repeats], [IN_ORDER, 1, 6, 2])
        self.assertIs(board.take(("a", 9, 9, (1,))), True)
        other = board.twin()
        board.take(("q", 1, 1, (1,)))
        board.take(("q", 1, 1, (1,)))
        self.assertEqual([len(other), other.repeats], [6, 1])
        self.assertIs(other.take(("q", 1, 1, (1,))), True)

    def test_twins_know_repeats(self):
        self.assertIs(board_of(REPORTS).twin().take(REPORTS[0]), False)

    def test_listing(self):
        board = board_of([("b", -1, 30, (5, -6, 7)), ("abcdefgh", 2, 2, (4,))])
        self.assertEqual(board.listing(), ["abcdefgh       2       2  4", "b             -1      30  5 -6 7"])

    def test_listing_with_long_parts(self):
        board = board_of([("a", 123456789, 12345678901, (5,)), ("b", -12345678, 12345678, (123456789012, 2))])
        self.assertEqual(board.listing(), ["a       12345678912345678901  5", "b       -1234567812345678  123456789012 2"])

    def test_repeats_is_a_property_and_methods_stand_in_the_class(self):
        self.assertIsInstance(vars(Board)["repeats"], property)
        for name in ("take", "reports_of", "rows", "twin", "listing", "__iter__", "__len__", "__contains__", "__eq__"):
            self.assertIn(name, vars(Board))


if __name__ == "__main__":
    unittest.main()
