"""Overlaps of bags: points 34 and 35, with 10."""

import itertools
import random
import unittest

from movedstates.errors import OtherHolding, Unclear
from movedstates.holdings import Holding
from movedstates.kinds import KIND_NAMES
from movedstates.overlaps import common_values, determined, unclear
from movedstates.unions import unite
from tests.helpers import parts_seen


def bag(letters, *, gap=0, base=0):
    return Holding.of("bag", letters, gap=gap, base=base)


def at_once(values, *numbers):
    """The letters of these numbers, all with the time 0."""
    return [(number, 0, values[number]) for number in numbers]


class CommonValuesTest(unittest.TestCase):

    def test_bags(self):
        self.assertEqual(common_values([7, 5, 5, 2], [5, 7, 5, 5]), [5, 5, 7])
        self.assertEqual(common_values([1, 2], [3, 4]), [])
        self.assertEqual(common_values([], [3, 4]), [])
        self.assertEqual(common_values([3, 4], []), [])
        self.assertEqual(common_values([3, -4, 3], [3, 3, -4]), [-4, 3, 3])
        self.assertEqual(common_values((3, 3), (3,)), [3])

    def test_against_counts(self):
        source = random.Random(34)
        for _ in range(300):
            one, other = [[source.randint(0, 3) for _ in range(source.randint(0, 6))] for _ in range(2)]
            kept = [list(one), list(other)]
            wanted = [value for value in range(4) for _ in range(min(one.count(value), other.count(value)))]
            self.assertEqual(common_values(one, other), wanted)
            self.assertEqual([one, other], kept)

    def test_a_new_list(self):
        one = [5, 6]
        common_values(one, one).append(9)
        self.assertEqual(one, [5, 6])


class DeterminedTest(unittest.TestCase):

    def test_nothing_shared(self):
        for one, other in (([], []), ([5], [6]), ([5, 6], [6, 5])):
            self.assertIs(determined(one, other, 0), True)

    def test_as_many_values_as_numbers(self):
        self.assertIs(determined([5, 6], [6, 7], 1), True)
        self.assertIs(determined([5, 6, 6, 8], [6, 7, 5], 2), True)

    def test_equal_values(self):
        self.assertIs(determined([5, 5], [5, 7, 5], 1), True)
        self.assertIs(determined([5, 5, 5, 6], [5, 7, 5, 5], 2), True)

    def test_neither(self):
        self.assertIs(determined([5, 7], [5, 7], 1), False)
        self.assertIs(determined([7, 5], [5, 6, 7], 1), False)
        self.assertIs(determined([5, 5, 7], [5, 5, 7], 2), False)
        self.assertIs(determined([5, 5, 7], [5, 5, 7], 1), False)

    def test_example(self):
        found = [common_values([7, 5, 5, 2], [5, 7, 5, 5]), determined([5, 7], [5, 7], 1), determined([5, 5], [5, 7, 5], 1)]
        self.assertEqual(found, [[5, 5, 7], False, True])


class UnclearTest(unittest.TestCase):

    def check_lists(self, one, other, found, numbers):
        """That the two lists are what point 35 says, for holdings whose blocks all have the numbers of one pair."""
        self.assertIs(type(found), tuple)
        left, right = found
        self.assertEqual([type(left), type(right)], [list, list])
        self.assertEqual([[number for number, _ in letters] for letters in (left, right)], [numbers, numbers])
        self.assertNotEqual(sorted(value for _, value in left), sorted(value for _, value in right))
        for letters in (left, right):
            values = dict(letters)
            for holding in (one, other):
                for low, high, _, _, row in holding.blocks:
                    if low in values:
                        missing = {number for hole in row if isinstance(hole, tuple) for number in range(*hole)}
                        known = [values[number] for number in range(low, high) if number not in missing]
                        self.assertEqual(sorted(known), [value for value in row if not isinstance(value, tuple)])

    def test_the_letters_that_the_document_names(self):
        for values in ([7, 5, 7], [5, 7, 5]):
            one, other = bag(at_once(values, 0, 1)), bag(at_once(values, 1, 2))
            found = unclear(one, other)
            self.assertEqual(sorted(found), [[(0, 5), (1, 7), (2, 5)], [(0, 7), (1, 5), (2, 7)]])
            self.check_lists(one, other, found, [0, 1, 2])

    def test_clear_pairs(self):
        cases = [([5, 6, 7], (0, 1), (1, 2)), ([5, 5, 5], (0, 1), (1, 2)), ([5, 6, 5], (0, 1), (0, 1)), ([5, 6, 5], (0, 1, 2), (1,)),
                 ([5, 6, 5], (0,), (0, 1, 2)), ([5, 6, 5], (0, 2), (1,)), ([5, 5, 5, 6], (0, 1, 2), (1, 2, 3)), ([5, 6, 7], (), (1, 2)),
                 ([5, 6, 5, 6], (0, 1), (2, 3)), ([5, 6, 7], (), ())]
        for values, some, others in cases:
            self.assertIsNone(unclear(bag(at_once(values, *some)), bag(at_once(values, *others))))

    def test_pairs_that_are_not(self):
        cases = [([5, 6, 5], (0, 1), (1, 2)), ([5, 6, 6, 5], (0, 1, 2), (1, 2, 3)), ([5, 6, 7, 7], (0, 1, 2), (0, 1, 3)),
                 ([5, 6, 7, 8, 5], (0, 1, 2, 3), (1, 2, 3, 4)), ([5, 9, 6, 5], (0, 2), (2, 3)), ([5, 5, 6, 5, 5], (0, 2, 4), (1, 2, 3))]
        for values, some, others in cases:
            one, other = bag(at_once(values, *some)), bag(at_once(values, *others))
            for left, right in ((one, other), (other, one)):
                self.check_lists(left, right, unclear(left, right), sorted({*some, *others}))

    def test_swallowed_blocks_fix_values(self):
        # Letter 1 by itself is a block that the letters 0 to 2 swallow, so its value is no longer free.
        one = Holding.of("bag", [(0, 0, 5), (1, 2, 6), (2, 4, 7), (3, 6, 5)], gap=2)
        other = Holding.of("bag", [(1, 2, 6), (3, 6, 5), (4, 8, 6)], gap=2)
        self.assertEqual(len(other), 2)
        self.assertIsNone(unclear(one, other))
        without = Holding.of("bag", [(3, 6, 5), (4, 8, 6)], gap=2)
        self.check_lists(one, without, unclear(one, without), [0, 1, 2, 3, 4])
        # It is free again if it is the very letter that both know.
        freed = Holding.of("bag", [(0, 0, 5), (3, 6, 5), (4, 8, 7)], gap=2)
        self.check_lists(one, freed, unclear(one, freed), [0, 1, 2, 3, 4])

    def test_a_block_that_swallows_and_touches(self):
        source = random.Random(342)
        many = 0
        for _ in range(3000):
            gap = source.choice((0, 1, 2))
            letters = [(number, time, source.choice((5, 6, 7))) for number, time in enumerate(
                sorted(source.randint(0, 6) for _ in range(source.randint(3, 8))))]
            one, other = [bag([letter for letter in letters if source.random() < 0.7], gap=gap) for _ in range(2)]
            try:
                found = unclear(one, other)
            except Unclear:
                continue
            if found is not None and len(one) == 1:
                numbers = [number for number, _ in found[0]]
                if all(block[0] in numbers for block in other.blocks):
                    self.check_lists(one, other, found, numbers)
                    many += len(other) > 1
        self.assertGreater(many, 3)

    def test_the_first_pair_in_the_order_of_the_numbers(self):
        values = [5, 6, 5, 0, 7, 8, 7]
        letters = [(number, 0 if number < 3 else 9, value) for number, value in enumerate(values)]
        one = bag([letters[at] for at in (0, 1, 4, 5)])
        other = bag([letters[at] for at in (1, 2, 5, 6)])
        self.assertEqual([number for number, _ in unclear(one, other)[0]], [0, 1, 2])
        clear = [5, 6, 9, 0, 7, 8, 7]
        letters = [(number, 0 if number < 3 else 9, value) for number, value in enumerate(clear)]
        one = bag([letters[at] for at in (0, 1, 4, 5)])
        other = bag([letters[at] for at in (1, 2, 5, 6)])
        for left, right in ((one, other), (other, one)):
            self.assertEqual([number for number, _ in unclear(left, right)[0]], [4, 5, 6])

    def test_blocks_below_the_greater_base_do_not_count(self):
        letters = [(0, 0, 5), (1, 0, 6), (2, 0, 5), (3, 9, 5)]
        one, other = bag(letters[:2]), bag(letters[1:], base=3)
        self.assertIsNone(unclear(one, other))
        self.assertIsNone(unclear(other, one))
        self.assertIsNotNone(unclear(one, bag(letters[1:])))

    def test_other_kinds(self):
        values = [7, 5, 7]
        for kind in KIND_NAMES:
            if kind != "bag":
                one, other = [Holding.of(kind, at_once(values, *some), gap=0) for some in ((0, 1), (1, 2))]
                self.assertIsNone(unclear(one, other))

    def test_a_block_that_touches_two(self):
        # Under gap 1 the letters 1 and 3 are apart, but letter 2 joins them.
        letters = [(number, number, 5 + number) for number in range(5)]
        one, other = [bag([letters[at] for at in some], gap=1) for some in ((0, 1, 3, 4), (1, 2, 3))]
        self.assertEqual([len(one), len(other)], [2, 1])
        for left, right in ((one, other), (other, one)):
            with self.assertRaises(Unclear):
                unclear(left, right)

    def test_a_block_that_touches_two_behind_a_pair_that_is_not_determined(self):
        letters = [(0, -9, 5), (1, -9, 6), (2, -9, 5)] + [(number, number, 5 + number) for number in range(3, 8)]
        one, other = [bag([letters[at] for at in some], gap=1) for some in ((0, 1, 3, 4, 6, 7), (1, 2, 4, 5, 6))]
        for left, right in ((one, other), (other, one)):
            with self.assertRaises(Unclear):
                unclear(left, right)

    def test_a_block_that_swallows_two(self):
        letters = [(number, number, 5 + number) for number in range(5)]
        one, other = bag([letters[at] for at in (0, 1, 3, 4)], gap=1), bag(letters, gap=1)
        self.assertEqual([unclear(one, other), unclear(other, one)], [None, None])

    def test_other_holdings(self):
        for kind, other in (("bag", "list"), ("list", "bag"), ("set", "first")):
            with self.assertRaises(OtherHolding):
                unclear(Holding.empty(kind, gap=1), Holding.empty(other, gap=1))
        for kind in KIND_NAMES:
            with self.assertRaises(OtherHolding):
                unclear(Holding.empty(kind, gap=1), Holding.empty(kind, gap=2))
        letters = [(number, number, 5 + number) for number in range(5)]
        one = bag([letters[at] for at in (0, 1, 3, 4)], gap=1)
        with self.assertRaises(OtherHolding):
            unclear(one, Holding.of("bag", [letters[at] for at in (1, 2, 3)], gap=2))

    def test_the_holdings_stay(self):
        one, other = bag(at_once([7, 5, 7], 0, 1)), bag(at_once([7, 5, 7], 1, 2))
        kept = [parts_seen(one), parts_seen(other)]
        unclear(one, other)[0].append(0)
        self.assertEqual([parts_seen(one), parts_seen(other)], kept)
        self.assertEqual(len(unclear(one, other)[0]), 3)


def unions_by_the_words(times, gap, some, others, values):
    """For each two holdings of letters with these numbers and times, the unions that any values give them."""
    found = {}
    for word in itertools.product(values, repeat=len(times)):
        letters = [(number, time, value) for number, (time, value) in enumerate(zip(times, word))]
        one, other = [bag([letters[at] for at in numbers], gap=gap) for numbers in (some, others)]
        both = bag([letters[at] for at in sorted({*some, *others})], gap=gap)
        unions = found.setdefault((one.blocks, other.blocks), (one, other, []))[2]
        if both not in unions:
            unions.append(both)
    return found.values()


def known(block):
    missing = {number for hole in block[4] if isinstance(hole, tuple) for number in range(*hole)}
    return {number for number in range(block[0], block[1]) if number not in missing}


def touches_two(one, other):
    """Whether a remaining block touches two blocks (point 34)."""
    theirs = [block for block in map(known, other.blocks) if not any(block <= greater for greater in map(known, one.blocks))]
    mine = [block for block in map(known, one.blocks) if not any(block <= greater for greater in theirs)]
    return any(sum(bool(block & touched) for touched in blocks) > 1
               for all_blocks, blocks in ((mine, theirs), (theirs, mine)) for block in all_blocks)


class DeterminedUnionsTest(unittest.TestCase):
    """Unclear exactly where not all letters have one union, if no remaining block touches two blocks."""

    def check(self, times, gap, some, others, values):
        many = 0
        for one, other, unions in unions_by_the_words(times, gap, some, others, values):
            if touches_two(one, other):
                for ask in (unclear, unite):
                    with self.assertRaises(Unclear):
                        ask(one, other)
            elif len(unions) > 1:
                self.assertIsNotNone(unclear(one, other))
                with self.assertRaises(Unclear):
                    unite(one, other)
                many += 1
            else:
                self.assertIsNone(unclear(one, other))
                self.assertEqual(unite(one, other), unions[0])
        return many

    def test_all_small_ones(self):
        numbers = [[at for at in range(4) if bits >> at & 1] for bits in range(16)]
        many = sum(self.check([0] * 4, 0, some, others, (5, 6)) for some in numbers for others in numbers)
        self.assertGreater(many, 50)

    def test_some_greater_ones(self):
        source = random.Random(35)
        many = 0
        for _ in range(120):
            length = source.choice((5, 6))
            times = sorted(source.choice((0, 0, 1, 2, 3, 4)) for _ in range(length))
            some, others = [[at for at in range(length) if source.random() < 0.6] for _ in range(2)]
            many += self.check(times, source.choice((0, 1, 1, 2, 4)), some, others, (5, 6))
        self.assertGreater(many, 100)


if __name__ == "__main__":
    unittest.main()
