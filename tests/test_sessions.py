"""Sessions: points 1, 2, 15, 16 and 17."""

import random
import unittest

from movedstates.errors import BadGap, BadKind, NotFitting
from movedstates.kinds import KIND_NAMES, plain_value
from movedstates.sessions import cut_sessions, joined_sessions, told_sessions
from tests.helpers import NOT_KINDS, random_letters

LETTERS = [(0, 0, 5), (1, 3, 6), (2, 7, 5), (3, 7, 8), (4, 10, 5)]


def sessions_by_the_words(kind, letters, gap):
    """The sessions of letters, straight from point 15."""
    cuts = [at for at in range(1, len(letters)) if letters[at][1] - letters[at - 1][1] > gap]
    bounds = [0] + cuts + [len(letters)]
    found = []
    for low, high in zip(bounds, bounds[1:]):
        if low < high:
            value = plain_value(kind, [letter[2] for letter in letters[low:high]])
            found.append((low, high, letters[low][1], letters[high - 1][1], value))
    return found


class CutSessionsTest(unittest.TestCase):

    def test_at_the_gap_and_one_above_it(self):
        self.assertEqual(cut_sessions("list", LETTERS, gap=3),
                         [(0, 2, 0, 3, (5, 6)), (2, 5, 7, 10, (5, 8, 5))])
        self.assertEqual(cut_sessions("list", LETTERS, gap=4), [(0, 5, 0, 10, (5, 6, 5, 8, 5))])
        self.assertEqual(cut_sessions("list", LETTERS, gap=2),
                         [(0, 1, 0, 0, (5,)), (1, 2, 3, 3, (6,)), (2, 4, 7, 7, (5, 8)), (4, 5, 10, 10, (5,))])
        self.assertEqual([session[:2] for session in cut_sessions("ends", LETTERS, gap=0)],
                         [(0, 1), (1, 2), (2, 4), (4, 5)])

    def test_each_kind(self):
        source = random.Random(15)
        for _ in range(200):
            letters = random_letters(source)
            gap = source.randint(0, 4)
            for kind in KIND_NAMES:
                self.assertEqual(cut_sessions(kind, letters, gap=gap), sessions_by_the_words(kind, letters, gap))

    def test_no_letters(self):
        for kind in KIND_NAMES:
            self.assertEqual(cut_sessions(kind, [], gap=0), [])

    def test_not_fitting(self):
        wrong = [[(1, 0, 5)], [(0, 0, 5), (2, 0, 5)], [(0, 0, 5), (0, 0, 5)], [(1, 0, 5), (0, 0, 5)],
                 [(0, 1, 5), (1, 0, 5)], [(0, 0, 5), (1, 3, 5), (2, 2, 5)], [(-1, 0, 5), (0, 1, 5)]]
        for letters in wrong:
            kept = list(letters)
            with self.assertRaises(NotFitting):
                cut_sessions("list", letters, gap=5)
            with self.assertRaises(NotFitting):
                told_sessions("list", letters, None, gap=5)
            self.assertEqual(letters, kept)

    def test_errors_in_order(self):
        calls = [lambda kind, gap: cut_sessions(kind, [(1, 0, 5)], gap=gap),
                 lambda kind, gap: told_sessions(kind, [(1, 0, 5)], None, gap=gap),
                 lambda kind, gap: joined_sessions(kind, [(0, 1, 9, 9, (1,))], [(0, 1, 1, 1, (1,))], gap=gap)]
        for call in calls:
            for thing in NOT_KINDS:
                with self.assertRaises(BadKind) as caught:
                    call(thing, -1)
                self.assertIs(caught.exception.name, thing)
            for gap in (-1, -10 ** 20):
                with self.assertRaises(BadGap) as caught:
                    call("list", gap)
                self.assertEqual(caught.exception.gap, gap)
            with self.assertRaises(NotFitting):
                call("list", 0)

    def test_example(self):
        found = cut_sessions("heads", [(0, 2, 7), (1, 4, 5), (2, 4, 7), (3, 9, 7)], gap=3)
        self.assertEqual(found, [(0, 3, 2, 4, (7, 5)), (3, 4, 9, 9, (7,))])


class ToldSessionsTest(unittest.TestCase):

    def told(self, mark, letters=LETTERS):
        return len(told_sessions("list", letters, mark, gap=3))

    def test_no_mark_tells_all_but_the_last(self):
        self.assertEqual(told_sessions("list", LETTERS, None, gap=3), [(0, 2, 0, 3, (5, 6))])

    def test_floor(self):
        self.assertEqual([self.told((5, 13)), self.told((5, 14)), self.told((0, 14)), self.told((0, 13))], [1, 2, 2, 1])

    def test_count(self):
        self.assertEqual([self.told((4, 14)), self.told((5, 14)), self.told((6, 14))], [2, 2, 1])
        self.assertEqual([self.told((4, None)), self.told((5, None)), self.told((6, None))], [2, 2, 1])

    def test_no_letters(self):
        for mark in (None, (0, None), (0, 5), (1, None)):
            self.assertEqual(told_sessions("set", [], mark, gap=3), [])

    def test_what_is_told(self):
        source = random.Random(17)
        for _ in range(300):
            letters = random_letters(source)
            gap = source.randint(0, 4)
            count = source.randint(0, 8)
            mark = source.choice((None, (count, None), (count, source.randint(-3, 25))))
            sessions = cut_sessions("tails", letters, gap=gap)
            told = told_sessions("tails", letters, mark, gap=gap)
            closed = bool(sessions) and mark is not None and mark[0] <= sessions[-1][1] and (
                mark[1] is None or mark[1] > sessions[-1][3] + gap)
            self.assertEqual(told, sessions if closed else sessions[:-1])


class JoinedSessionsTest(unittest.TestCase):

    def halves(self, kind, letters, at, gap):
        right = [(number - at, time, value) for number, time, value in letters[at:]]
        return cut_sessions(kind, letters[:at], gap=gap), cut_sessions(kind, right, gap=gap)

    def test_all_places(self):
        source = random.Random(16)
        for _ in range(150):
            letters = random_letters(source)
            gap = source.randint(0, 4)
            for kind in KIND_NAMES:
                for at in range(len(letters) + 1):
                    left, right = self.halves(kind, letters, at, gap)
                    kept = [list(left), list(right)]
                    joined = joined_sessions(kind, left, right, gap=gap)
                    self.assertEqual(joined, cut_sessions(kind, letters, gap=gap))
                    self.assertEqual([left, right], kept)

    def test_with_a_gap_between_and_without(self):
        left, right = [(0, 2, 0, 3, (5, 6))], [(0, 1, 7, 7, (5,)), (1, 2, 20, 20, (9,))]
        self.assertEqual(joined_sessions("heads", left, right, gap=3),
                         [(0, 2, 0, 3, (5, 6)), (2, 3, 7, 7, (5,)), (3, 4, 20, 20, (9,))])
        self.assertEqual(joined_sessions("heads", left, right, gap=4),
                         [(0, 3, 0, 7, (5, 6)), (3, 4, 20, 20, (9,))])

    def test_an_empty_side(self):
        sessions = [(0, 2, 9, 9, (5, 6)), (2, 3, -4, -4, (7,))]
        for left, right in ((sessions, []), ([], sessions)):
            joined = joined_sessions("list", left, right, gap=0)
            self.assertEqual(joined, sessions)
            self.assertIsNot(joined, sessions)
        self.assertEqual(joined_sessions("list", [], [], gap=0), [])

    def test_first_time_of_right_at_the_last_time_of_left_and_below_it(self):
        left = [(0, 2, 0, 3, (5, 6))]
        self.assertEqual(joined_sessions("last", left, [(0, 1, 3, 3, (8,))], gap=0), [(0, 3, 0, 3, (8,))])
        for right in ([(0, 1, 2, 2, (8,))], [(0, 2, 2, 3, (8,))], [(0, 3, 2, 9, (8,)), (3, 4, 20, 20, (8,))],
                      [(0, 1, -1, -1, (8,))], [(0, 1, 0, 9, (8,))]):
            for gap in (0, 5):
                with self.assertRaises(NotFitting):
                    joined_sessions("last", left, right, gap=gap)
            with self.assertRaises(NotFitting):
                joined_sessions("last", [(0, 4, -30, -20, (5,)), (4, 6, 0, 3, (6,))], right, gap=5)


if __name__ == "__main__":
    unittest.main()
