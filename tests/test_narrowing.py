"""Narrowing: the first half of point 30, with points 7, 8 and 21."""

import random
import unittest

from movedstates.errors import BadKind, NotUnder
from movedstates.holdings import Holding
from movedstates.kinds import KIND_NAMES, sundered, under
from movedstates.narrowing import narrowed
from movedstates.ripening import tell
from tests.helpers import NOT_KINDS, kind_pairs, parts_seen, random_letters

# Straight from point 7.
UNDER = {"list": ["list"], "bag": ["bag", "list"], "set": ["set", "list", "bag", "heads", "tails"],
         "first": ["first", "list", "ends", "heads"], "last": ["last", "list", "ends", "tails"], "ends": ["ends", "list"],
         "heads": ["heads", "list"], "tails": ["tails", "list"]}
PAIRS_UNDER = [(kind, other) for kind in KIND_NAMES for other in KIND_NAMES if other in UNDER[kind]]


class NarrowedTest(unittest.TestCase):

    def test_rows(self):
        letters = [(0, 0, 6), (1, 1, 5), (3, 2, 6), (4, 3, 7), (6, 3, 5)]
        rows = {"list": (6, 5, (2, 3), 6, 7, (5, 6), 5), "bag": (5, 5, 6, 6, 7, (2, 3), (5, 6)), "set": (5, 6, 7, (2, 3), (5, 6)),
                "first": (6,), "last": (5,), "ends": (6, 5), "heads": (6, 5, (2, 3), 7, (5, 6)),
                "tails": ((2, 3), 6, 7, (5, 6), 5)}
        for kind, other in PAIRS_UNDER:
            with self.subTest(f"{kind} under {other}"):
                found = narrowed(Holding.of(other, letters, gap=1, base=0), kind)
                self.assertEqual(parts_seen(found), [kind, 1, 0, ((0, 7, 0, 3, rows[kind]),)])

    def test_is_the_holding_of_the_same_letters(self):
        source = random.Random(30)
        for _ in range(150):
            letters = random_letters(source, most=9, full=source.random() < 0.3)
            gap, base = source.randint(0, 4), source.randint(0, 3)
            for kind, other in PAIRS_UNDER:
                holding = Holding.of(other, letters, gap=gap, base=base)
                found = narrowed(holding, kind)
                self.assertEqual(parts_seen(found), parts_seen(Holding.of(kind, letters, gap=gap, base=base)))
                self.assertEqual(parts_seen(holding), parts_seen(Holding.of(other, letters, gap=gap, base=base)))

    def test_ahead_of_putting_and_behind_it(self):
        source = random.Random(301)
        for _ in range(150):
            letters = [letter for letter in random_letters(source, most=9, full=False) if letter[0] >= 0]
            gap = source.randint(0, 4)
            if not letters:
                continue
            letter = letters.pop(source.randrange(len(letters)))
            for kind, other in PAIRS_UNDER:
                holding = Holding.of(other, letters, gap=gap)
                self.assertEqual(narrowed(holding.put(*letter), kind), narrowed(holding, kind).put(*letter))

    def test_twice(self):
        source = random.Random(302)
        for _ in range(60):
            holding = Holding.of("list", random_letters(source, full=False), gap=2)
            for kind, other in PAIRS_UNDER:
                self.assertEqual(narrowed(narrowed(holding, other), kind), narrowed(holding, kind))

    def test_what_is_told_is_narrower(self):
        source = random.Random(303)
        for _ in range(60):
            letters = random_letters(source)
            holding = Holding.of("list", letters, gap=2)
            mark = (0, source.choice((None, 0, 5, 50)))
            for kind in KIND_NAMES:
                told, left = tell(holding, mark)
                wanted, behind = tell(Holding.of(kind, letters, gap=2), mark)
                self.assertEqual([session[:4] for session in told], [session[:4] for session in wanted])
                self.assertEqual(narrowed(left, kind), behind)

    def test_no_blocks(self):
        for kind, other in PAIRS_UNDER:
            self.assertEqual(narrowed(Holding.empty(other, gap=3, base=8), kind), Holding.empty(kind, gap=3, base=8))


class NotUnderTest(unittest.TestCase):

    def test_each_pair(self):
        for kind, other in kind_pairs():
            if (kind, other) in PAIRS_UNDER:
                continue
            for holding in (Holding.empty(other, gap=3), Holding.of(other, [(0, 0, 5), (1, 1, 6)], gap=3)):
                with self.assertRaises(NotUnder) as caught:
                    narrowed(holding, kind)
                self.assertEqual([caught.exception.kind, caught.exception.other], [kind, other])

    def test_sundered_words(self):
        many = 0
        for kind, other in kind_pairs():
            if under(kind, other):
                continue
            left, right = [[(at, 0, value) for at, value in enumerate(word)] for word in sundered(kind, other)]
            self.assertTrue(Holding.of(other, left, gap=0) == Holding.of(other, right, gap=0))
            self.assertFalse(Holding.of(kind, left, gap=0) == Holding.of(kind, right, gap=0))
            many += 1
        self.assertEqual(many, 64 - len(PAIRS_UNDER))

    def test_bad_kind_comes_first(self):
        for thing in NOT_KINDS:
            for other in KIND_NAMES:
                with self.assertRaises(BadKind) as caught:
                    narrowed(Holding.empty(other, gap=0), thing)
                self.assertIs(caught.exception.name, thing)


if __name__ == "__main__":
    unittest.main()
