"""Futures and partings: point 28."""

import itertools
import random
import unittest

from movedstates.errors import OtherHolding, OutOfOrder
from movedstates.holdings import Holding
from movedstates.kinds import KIND_NAMES
from movedstates.partings import future, parting
from movedstates.ripening import tell


def walked(holding, letters):
    """The holding at the end of the future, and whether a letter is refused."""
    for letter in letters:
        try:
            holding = holding.put(*letter)
        except OutOfOrder:
            return holding, True
    return holding, False


def small_holdings(kind, source):
    """Holdings of few letters with gap 1, in a fixed order but thinned out."""
    found = {}
    for many in range(4):
        for numbers in itertools.combinations(range(4), many):
            for times in itertools.combinations_with_replacement((0, 1, 3), many):
                for values in itertools.product((5, 6), repeat=many):
                    letters = list(zip(numbers, times, values))
                    for base in range(numbers[0] + 1 if numbers else 4):
                        holding = Holding.of(kind, letters, gap=1, base=base)
                        found.setdefault((base, holding.blocks), holding)
    found = list(found.values())
    source.shuffle(found)
    return found


class FutureTest(unittest.TestCase):

    def test_without_a_refused_letter(self):
        holding = Holding.of("list", [(1, 4, 7)], gap=2)
        found = future(holding, [(0, 3, 8), (3, 9, 9), (2, 5, 4)], 4)
        self.assertEqual(found, ("told", [(0, 3, 3, 5, (8, 7, 4)), (3, 4, 9, 9, (9,))]))
        self.assertEqual(future(holding, [(0, 3, 8), (3, 9, 9), (2, 5, 4)], 5), ("told", [(0, 3, 3, 5, (8, 7, 4))]))
        self.assertEqual(future(holding, [], 9), ("told", []))
        self.assertEqual(holding, Holding.of("list", [(1, 4, 7)], gap=2))

    def test_with_a_refused_letter(self):
        holding = Holding.of("list", [(1, 4, 7)], gap=2)
        self.assertEqual(future(holding, [(0, 5, 8), (9, 9, 9)], 10), ("refused", 0))
        self.assertEqual(future(holding, [(0, 4, 8), (1, 0, 8), (2, 3, 8), (3, 3, 3)], 10), ("refused", 2))

    def test_the_list_stays(self):
        letters = [(0, 3, 8), (2, 3, 9)]
        future(Holding.of("list", [(1, 4, 7)], gap=2), letters, 3)
        self.assertEqual(letters, [(0, 3, 8), (2, 3, 9)])

    def test_example(self):
        self.assertEqual(future(Holding.of("list", [(1, 4, 7)], gap=2), [(0, 3, 8), (2, 3, 9)], 3), ("refused", 1))


class PartingTest(unittest.TestCase):

    def check(self, one, other):
        """That the parting of two holdings is what point 28 says."""
        found = parting(one, other)
        if one == other:
            self.assertIsNone(found)
            return
        self.assertIs(type(found), tuple)
        letters, count = found
        self.assertIs(type(letters), list)
        ends = [walked(one, letters), walked(other, letters)]
        self.assertEqual(count, max(end.top for end, _ in ends))
        self.assertIn([refused for _, refused in ends], ([False, False], [False, True], [True, False]))
        if not ends[0][1] and not ends[1][1]:
            self.assertNotEqual(tell(ends[0][0], (count, None))[0], tell(ends[1][0], (count, None))[0])
        self.assertNotEqual(future(one, letters, count), future(other, letters, count))
        missing = [number for number in range(min(one.top, other.top)) if number not in one and number not in other]
        self.assertTrue(len(letters) <= 2 or [letter[0] for letter in letters] == missing)

    def test_small_holdings(self):
        source = random.Random(28)
        for kind in KIND_NAMES:
            holdings = small_holdings(kind, source)
            for one, other in zip(holdings, holdings[1:]):
                self.check(one, other)
                self.check(one, one)

    def test_holdings_that_differ_little(self):
        """Those that cover the same numbers, and of these those with the same blocks but for the rows."""
        source = random.Random(281)
        for kind in KIND_NAMES:
            for likeness in (lambda holding: [number in holding for number in range(5)],
                             lambda holding: [holding.base] + [block[:4] for block in holding]):
                groups = {}
                for holding in small_holdings(kind, source):
                    groups.setdefault(str(likeness(holding)), []).append(holding)
                for group in groups.values():
                    for step in (1, 2, 3):
                        for one, other in zip(group[:25], group[step:25]):
                            self.check(one, other)

    def test_different_bases(self):
        for kind in KIND_NAMES:
            holdings = [Holding.empty(kind, gap=1, base=base) for base in (0, 1, 2, 5)]
            holdings += [Holding.of(kind, [(0, 0, 5), (1, 0, 5)], gap=1), Holding.of(kind, [(2, 9, 5)], gap=1, base=2),
                         Holding.of(kind, [(0, 0, 5), (1, 0, 5), (2, 9, 5)], gap=1)]
            for one in holdings:
                for other in holdings:
                    self.check(one, other)

    def test_blocks_with_many_missing_numbers(self):
        for kind in KIND_NAMES:
            one = Holding.of(kind, [(0, 0, 5), (300, 1, 6), (301, 1, 6)], gap=1)
            for letters in ([(0, 0, 6), (300, 1, 7), (301, 1, 7)], [(0, 0, 5), (300, 1, 6), (301, 1, 7)],
                            [(0, 0, 5), (300, 1, 6), (301, 9, 6)], [(0, 0, 5), (300, 2, 6), (301, 2, 6)]):
                self.check(one, Holding.of(kind, letters, gap=1))

    def test_times_that_a_filled_hole_could_hide(self):
        """The same values and numbers, with 2 missing behind the first block, which ends a little earlier or later."""
        for kind in KIND_NAMES:
            for gap in (1, 3):
                one = Holding.of(kind, [(0, 0, 5), (1, 1, 6), (3, 9, 7)], gap=gap)
                other = Holding.of(kind, [(0, 0, 5), (1, 0, 6), (3, 9, 7)], gap=gap)
                earlier = Holding.of(kind, [(1, 3, 6), (3, 9, 7)], gap=gap)
                later = Holding.of(kind, [(1, 3, 6), (3, 10, 7)], gap=gap)
                for pair in ((one, other), (other, one), (earlier, later), (later, earlier)):
                    self.check(*pair)

    def test_one_block_or_two_with_the_same_rooms(self):
        for kind in KIND_NAMES:
            for letters in ([(0, 0, 5), (1, 1, 6), (3, 2, 7)], [(0, 0, 5), (1, 0, 6), (2, 1, 5), (3, 2, 7)]):
                self.check(Holding.of(kind, letters, gap=1), Holding.of(kind, [(0, 0, 5), (1, 0, 6), (3, 2, 7)], gap=1))

    def test_outer_values_at_either_end(self):
        for kind, one, other in (("first", 5, 6), ("last", 5, 6), ("ends", 5, 6)):
            for at in range(4):
                letters = [(2, 0, one), (3, 1, one), (6, 9, one), (8, 10, one)]
                changed = [(number, time, other if place == at else value)
                           for place, (number, time, value) in enumerate(letters)]
                self.check(Holding.of(kind, letters, gap=1), Holding.of(kind, changed, gap=1))

    def test_other_holding(self):
        one = Holding.of("list", [(1, 4, 7)], gap=2)
        for other in (Holding.of("heads", [(1, 4, 7)], gap=2), Holding.of("list", [(1, 4, 7)], gap=3),
                      Holding.empty("bag", gap=9)):
            for pair in ((one, other), (other, one)):
                with self.assertRaises(OtherHolding):
                    parting(*pair)


if __name__ == "__main__":
    unittest.main()
