"""Telling: points 1, 2, 26 and 27."""

import random
import unittest

from movedstates.errors import BadGap, BadKind, NotFitting
from movedstates.holdings import Holding
from movedstates.kinds import KIND_NAMES
from movedstates.ripening import ripe, rival, tell
from movedstates.sessions import cut_sessions
from tests.helpers import NOT_KINDS, is_base, mark_is_true, random_letters, random_mark

OUTER = ("first", "last", "ends")


class RipeTest(unittest.TestCase):

    def answer(self, holding, mark):
        found = ripe(holding, mark)
        self.assertIs(type(found), bool)
        return found

    def test_no_block(self):
        for mark in (None, (0, 9), (0, None)):
            self.assertFalse(self.answer(Holding.empty("list", gap=3), mark))

    def test_by_the_next_block(self):
        for kind in KIND_NAMES:
            self.assertTrue(self.answer(Holding.of(kind, [(0, 0, 5), (1, 4, 5)], gap=3), None))
            self.assertFalse(self.answer(Holding.of(kind, [(0, 0, 5), (2, 4, 5)], gap=3), None))
            self.assertFalse(self.answer(Holding.of(kind, [(0, 0, 5)], gap=3), None))

    def test_by_the_mark(self):
        for kind in KIND_NAMES:
            holding = Holding.of(kind, [(4, 0, 5), (5, 2, 5)], gap=3, base=4)
            self.assertFalse(self.answer(holding, None))
            self.assertFalse(self.answer(holding, (6, 5)))
            self.assertTrue(self.answer(holding, (6, 6)))
            self.assertTrue(self.answer(holding, (0, 6)))
            self.assertFalse(self.answer(holding, (7, 6)))
            self.assertTrue(self.answer(holding, (6, None)))
            self.assertTrue(self.answer(holding, (0, None)))
            self.assertFalse(self.answer(holding, (7, None)))

    def test_with_a_low_above_the_base(self):
        for kind in KIND_NAMES:
            holding = Holding.of(kind, [(4, 0, 5), (5, 9, 5)], gap=3, base=3)
            for mark in (None, (0, 99), (0, None)):
                self.assertFalse(self.answer(holding, mark))

    def test_with_a_hole(self):
        for kind in KIND_NAMES:
            holding = Holding.of(kind, [(0, 0, 5), (2, 2, 6), (3, 9, 5)], gap=3)
            for mark in (None, (0, 99), (0, None)):
                self.assertIs(self.answer(holding, mark), kind in OUTER)


class TellTest(unittest.TestCase):

    def test_several_sessions_at_once(self):
        for kind in KIND_NAMES:
            letters = [(0, 0, 5), (1, 2, 6), (2, 9, 5), (3, 20, 7), (5, 30, 8)]
            holding = Holding.of(kind, letters, gap=3)
            told, left = tell(holding, (0, 99))
            self.assertEqual(told, cut_sessions(kind, letters[:4], gap=3))
            self.assertEqual(left, Holding.of(kind, letters, gap=3, base=4))
            self.assertEqual(holding, Holding.of(kind, letters, gap=3))
            told, left = tell(holding, None)
            self.assertEqual(told, cut_sessions(kind, letters[:4], gap=3)[:2])
            self.assertEqual(left, Holding.of(kind, letters, gap=3, base=3))

    def test_nothing_is_told(self):
        for holding in (Holding.empty("bag", gap=0, base=4), Holding.of("bag", [(5, 0, 1)], gap=0, base=4)):
            told, left = tell(holding, (0, None))
            self.assertEqual([told, left], [[], holding])
            told.append(1)
            self.assertEqual(tell(holding, (0, None))[0], [])

    def test_the_size(self):
        source = random.Random(26)
        for _ in range(200):
            kind = source.choice(KIND_NAMES)
            holding = Holding.of(kind, random_letters(source), gap=source.randint(0, 3))
            told, left = tell(holding, (0, source.choice((None, 0, 9, 99))))
            self.assertLessEqual(left.size, holding.size - 5 * len(told))

    def test_tellings_between_puttings(self):
        source = random.Random(27)
        for _ in range(500):
            kind, gap = source.choice(KIND_NAMES), source.randint(0, 3)
            letters = random_letters(source)
            order = letters * source.choice((1, 2))
            source.shuffle(order)
            holding = Holding.empty(kind, gap=gap)
            sessions = []
            for letter in order:
                holding = holding.put(*letter)
                told, holding = tell(holding, random_mark(source, letters))
                sessions += told
            told, holding = tell(holding, (len(letters), None))
            self.assertEqual(sessions + told, cut_sessions(kind, letters, gap=gap))
            self.assertEqual([len(holding), holding.base], [0, len(letters)])

    def test_what_is_told_and_left(self):
        source = random.Random(271)
        for _ in range(500):
            kind, gap = source.choice(KIND_NAMES), source.randint(0, 3)
            letters = random_letters(source)
            base = source.choice([at for at in range(len(letters) + 1) if is_base(letters, at, gap)])
            some = [letter for letter in letters if source.random() < 0.8]
            told, left = tell(Holding.of(kind, some, gap=gap, base=base), random_mark(source, letters))
            behind = [session for session in cut_sessions(kind, letters, gap=gap) if session[0] >= base]
            self.assertEqual(told, behind[:len(told)])
            reached = told[-1][1] if told else base
            self.assertEqual(left, Holding.of(kind, some, gap=gap, base=reached))

    def test_example(self):
        told, left = tell(Holding.of("first", [(0, 0, 4), (2, 3, 9), (3, 8, 1)], gap=3), None)
        self.assertEqual([told, left.base, left.blocks], [[(0, 3, 0, 3, (4,))], 3, ((3, 4, 8, 8, (1,)),)])


class RivalTest(unittest.TestCase):

    def check(self, kind, letters, some, mark, gap, base):
        """That the rival, behind the letters below the base, is what point 27 says."""
        holding = Holding.of(kind, some, gap=gap, base=base)
        kept = list(some)
        found = rival(kind, some, mark, gap=gap, base=base)
        self.assertEqual(some, kept)
        if len(holding) == 0:
            self.assertIsNone(found)
            return 0
        block = holding.blocks[0]
        if ripe(holding, mark):
            self.assertIsNone(found)
            self.assertIn(block, cut_sessions(kind, letters, gap=gap))
            return 0
        self.assertIs(type(found), list)
        other = letters[:base] + found
        self.assertNotIn(block, cut_sessions(kind, other, gap=gap))
        self.assertTrue(all(letter in other for letter in some))
        self.assertTrue(is_base(other, base, gap))
        self.assertTrue(mark_is_true(other, mark))
        return 1

    def test_against_the_words_of_the_point(self):
        source = random.Random(272)
        many = 0
        for _ in range(4000):
            kind, gap = source.choice(KIND_NAMES), source.randint(0, 3)
            letters = random_letters(source)
            base = source.choice([at for at in range(len(letters) + 1) if is_base(letters, at, gap)])
            share = source.choice((0.4, 0.8, 1))
            some = [letter for letter in letters if source.random() < share]
            source.shuffle(some)
            many += self.check(kind, letters, some, random_mark(source, letters), gap, base)
        self.assertGreater(many, 1000)

    def test_it_does_for_all_letters_below_the_base(self):
        """Letter 0 is as near to the base as some letters let it be."""
        for kind in KIND_NAMES:
            found = rival(kind, [(3, 10, 5)], None, gap=4, base=1)
            self.assertEqual([letter[:2] for letter in found[:1]], [(1, 10)])
            for time in (-5, 0, 5):
                letters = [(0, time, 9)] + found
                self.assertTrue(is_base(letters, 1, 4))

    def test_a_mark_that_bears_on_the_next_letter(self):
        for kind in KIND_NAMES:
            letters = [(0, 0, 5), (1, 3, 5)]
            for mark in ((1, 3), (2, 6), (0, 0), (0, -5), (1, 2), (3, 99), (5, None)):
                self.assertTrue(self.check(kind, letters, letters, mark, 3, 0))
            for mark in ((2, 7), (2, None)):
                self.assertFalse(self.check(kind, letters, letters, mark, 3, 0))

    def test_each_reason(self):
        for kind in KIND_NAMES:
            letters = [(0, 0, 5), (1, 2, 6), (2, 4, 7), (3, 9, 8), (4, 20, 5)]
            for at in range(5):
                self.check(kind, letters, letters[:at] + letters[at + 1:], None, 3, 0)
            self.assertTrue(self.check(kind, letters, letters[1:], (5, None), 3, 0))
            self.assertIs(bool(self.check(kind, letters, letters[:1] + letters[2:], (5, None), 4, 0)), kind not in OUTER)
            self.assertTrue(self.check(kind, letters, letters[:3] + letters[4:], None, 3, 0))

    def test_errors(self):
        wrong = [(0, 1, 5), (0, 1, 5)]
        for thing in NOT_KINDS:
            with self.assertRaises(BadKind) as caught:
                rival(thing, wrong, None, gap=-1)
            self.assertIs(caught.exception.name, thing)
        with self.assertRaises(BadGap) as caught:
            rival("list", wrong, None, gap=-1)
        self.assertEqual(caught.exception.gap, -1)
        for base in (0, 9):
            with self.assertRaises(NotFitting):
                rival("list", wrong, None, gap=0, base=base)


if __name__ == "__main__":
    unittest.main()
