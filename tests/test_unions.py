"""Unions: points 31 to 37, 39 and 40."""

import itertools
import random
import unittest

from movedstates.errors import OtherHolding, Unclear
from movedstates.holdings import Holding
from movedstates.kinds import KIND_NAMES
from movedstates.ripening import tell
from movedstates.unions import unite, united
from tests.helpers import OneTape, parts_seen, random_mark

OUTER = ("first", "last", "ends")
CLEAR = [kind for kind in KIND_NAMES if kind != "bag"]


def holdings_of(tape, kind):
    one = Holding.of(kind, tape.one, gap=tape.gap, base=tape.one_base)
    return one, Holding.of(kind, tape.other, gap=tape.gap, base=tape.other_base)


def tried(*holdings):
    """The union, or None where it is unclear."""
    try:
        return united(*holdings)
    except Unclear:
        return None


def numbers_of(holding, count=40):
    return [number for number in range(-1, count) if number in holding]


class UniteTest(unittest.TestCase):

    def check(self, kind, letters, some, others, *, gap, base=0, other_base=0):
        """That the union of two holdings of these letters is that of the letters of both."""
        one = Holding.of(kind, [letters[at] for at in some], gap=gap, base=base)
        other = Holding.of(kind, [letters[at] for at in others], gap=gap, base=other_base)
        both = [letters[at] for at in sorted({*some, *others})]
        wanted = Holding.of(kind, both, gap=gap, base=max(base, other_base))
        for found in (unite(one, other), unite(other, one)):
            self.assertEqual(parts_seen(found), parts_seen(wanted))
        return wanted

    def test_holes_that_are_filled_in_part_and_whole_and_not_at_all(self):
        letters = [(number, number // 2, 5 + number * number % 4) for number in range(9)]
        for kind in KIND_NAMES:
            for others in ((2,), (4,), (2, 3), (3, 4), (2, 4), (2, 3, 4), (6,), (2, 6), (0, 8), (), (2, 3, 4, 6, 7)):
                self.check(kind, letters, (0, 1, 5, 8), others, gap=9)

    def test_groups_of_three_and_more_blocks(self):
        letters = [(number, 2 * number, 5 + number % 3) for number in range(12)]
        for kind in KIND_NAMES:
            self.assertEqual(len(self.check(kind, letters, (0, 2, 4), (1, 3), gap=2)), 1)
            self.assertEqual(len(self.check(kind, letters, (0, 2, 4, 6, 8), (1, 3, 5, 7), gap=2)), 1)
            self.assertEqual(len(self.check(kind, letters, (0, 1, 5, 6, 10), (3, 8), gap=4)), 1)
            self.assertEqual(len(self.check(kind, letters, (0, 4, 8), (2, 6), gap=3)), 5)
            self.assertEqual(len(self.check(kind, letters, (0, 4, 8, 9), (2, 6, 10, 11), gap=3)), 5)

    def test_a_group_goes_on_at_its_greatest_last_time(self):
        letters = [(0, 0, 5), (1, 1, 6), (2, 9, 5), (3, 12, 8), (4, 16, 5)]
        for kind in KIND_NAMES:
            # Letter 1 is a block within the block of the letters 0 and 2, to which the letters 3 and 4 belong by times.
            self.check(kind, letters, (0, 2), (1, 3), gap=9)
            self.check(kind, letters, (0, 2, 3), (1,), gap=9)
            self.assertEqual(len(self.check(kind, letters, (0, 2), (1, 4), gap=7)), 2)

    def test_at_the_gap_and_above_it(self):
        letters = [(0, 0, 5), (1, 3, 6)]
        for kind in KIND_NAMES:
            self.assertEqual(len(self.check(kind, letters, (0,), (1,), gap=3)), 1)
            self.assertEqual(len(self.check(kind, letters, (0,), (1,), gap=2)), 2)

    def test_bases(self):
        letters = [(number, 10 * (number // 3), 5 + number % 4) for number in range(12)]
        for kind in KIND_NAMES:
            for base, other_base in itertools.product((0, 3, 6, 9, 12), repeat=2):
                for some, others in (((0, 1, 3, 5, 6, 8, 9), (1, 2, 4, 7, 11)), ((0, 4, 10), (3, 5, 6, 9)), (range(12), (4, 7))):
                    self.check(kind, letters, some, others, gap=5, base=base, other_base=other_base)

    def test_blocks_below_the_greater_base_are_left_out(self):
        for kind in KIND_NAMES:
            one = Holding.of(kind, [(0, 0, 5), (1, 0, 6), (4, 20, 7)], gap=3)
            other = Holding.empty(kind, gap=3, base=2)
            wanted = Holding.of(kind, [(4, 20, 7)], gap=3, base=2)
            self.assertEqual([unite(one, other), unite(other, one)], [wanted, wanted])

    def test_holdings_of_one_tape(self):
        source = random.Random(31)
        for _ in range(1500):
            tape = OneTape(source, values=source.choice(((5, 6), (5, 6, 7), range(9))))
            for kind in KIND_NAMES:
                one, other = holdings_of(tape, kind)
                kept = [parts_seen(one), parts_seen(other)]
                wanted = Holding.of(kind, tape.both(), gap=tape.gap, base=tape.base())
                found = tried(one, other)
                if kind != "bag" or found is not None:
                    self.assertEqual(parts_seen(found), parts_seen(wanted))
                self.assertEqual([parts_seen(one), parts_seen(other)], kept)

    def test_great_numbers(self):
        """Numbers of letters have up to 10 digits, other integers up to 24."""
        many, far = 10 ** 10 - 1, 10 ** 24 - 1
        letters = [(0, -far, -far), (5, 0, far), (many - 1, 0, 7), (many, far, -far)]
        for kind in CLEAR:
            for gap in (0, far):
                one, other = [Holding.of(kind, [letters[at] for at in some], gap=gap) for some in ((0, 2), (1, 2, 3))]
                wanted = Holding.of(kind, letters, gap=gap)
                self.assertEqual([unite(one, other), unite(other, one)], [wanted, wanted])

    def test_outer_blocks(self):
        for kind, row in (("first", (5,)), ("last", (9,)), ("ends", (5, 9))):
            one = Holding.of(kind, [(0, 0, 5), (3, 4, 8)], gap=4)
            other = Holding.of(kind, [(1, 1, 6), (6, 5, 9)], gap=4)
            for found in (unite(one, other), unite(other, one)):
                self.assertEqual(found.blocks, ((0, 7, 0, 5, row),))

    def test_set_rows(self):
        one = Holding.of("set", [(0, 0, 9), (3, 1, 5)], gap=4)
        other = Holding.of("set", [(1, 0, 7), (3, 1, 5), (7, 2, 6)], gap=4)
        self.assertEqual(unite(one, other).blocks, ((0, 8, 0, 2, (5, 6, 7, 9, (2, 3), (4, 7))),))

    def test_example(self):
        one = Holding.of("heads", [(0, 0, 5), (4, 10, 5)], gap=5)
        found = [len(one), unite(one, Holding.of("heads", [(2, 5, 6)], gap=5)).blocks]
        self.assertEqual(found, [2, ((0, 5, 0, 10, (5, (1, 2), 6, (3, 4))),)])


class BagTest(unittest.TestCase):

    def both(self, values, some, others):
        return [Holding.of("bag", [(number, 0, values[number]) for number in numbers], gap=0) for numbers in (some, others)]

    def test_swallowed_blocks(self):
        for some, others in (((0, 1, 2, 3), (1, 2)), ((0, 1, 2, 3), (0, 1, 2, 3)), ((0, 2, 3), (2,)), ((0, 2, 3), ())):
            one, other = self.both([5, 7, 5, 6], some, others)
            self.assertEqual([unite(one, other), unite(other, one)], [one, one])

    def test_several_swallowed_blocks(self):
        letters = [(number, 3 * number, 5 + number % 2) for number in range(6)]
        one = Holding.of("bag", letters, gap=3)
        other = Holding.of("bag", [letters[at] for at in (0, 2, 3, 5)], gap=3)
        self.assertEqual(len(other), 3)
        self.assertEqual([unite(one, other), unite(other, one)], [one, one])

    def test_swallowed_blocks_in_both(self):
        letters = [(number, 3 * number, 5 + number) for number in range(7)]
        one = Holding.of("bag", [letters[at] for at in (0, 1, 2, 4)], gap=3)
        other = Holding.of("bag", [letters[at] for at in (1, 4, 5, 6)], gap=3)
        wanted = Holding.of("bag", [letters[at] for at in (0, 1, 2, 4, 5, 6)], gap=3)
        self.assertEqual([unite(one, other), unite(other, one)], [wanted, wanted])

    def test_blocks_that_touch(self):
        cases = [([5, 6, 7], (0, 1), (1, 2), (5, 6, 7)), ([5, 5, 5], (0, 1), (1, 2), (5, 5, 5)),
                 ([5, 5, 7, 5], (0, 1, 2), (1, 3), (5, 5, 5, 7)), ([9, 6, 7, 8], (0, 1, 2), (1, 2, 3), (6, 7, 8, 9)),
                 ([5, 6, 8, 7, 9, 5], (0, 1, 2), (2, 3, 4), (5, 6, 7, 8, 9))]
        for values, some, others, row in cases:
            one, other = self.both(values, some, others)
            for found in (unite(one, other), unite(other, one)):
                self.assertEqual(found.blocks, ((0, len(row), 0, 0, row),))

    def test_a_block_that_swallows_one_and_touches_another(self):
        letters = [(0, 0, 5), (1, 2, 6), (2, 4, 7), (3, 6, 5), (4, 8, 6)]
        one = Holding.of("bag", letters[:4], gap=2)
        other = Holding.of("bag", [letters[1], letters[3], letters[4]], gap=2)
        wanted = Holding.of("bag", letters, gap=2)
        self.assertEqual([unite(one, other), unite(other, one)], [wanted, wanted])

    def test_values_of_another_group_stay(self):
        letters = [(0, 0, 5), (1, 0, 6), (2, 0, 7), (3, 9, 5), (4, 9, 6), (5, 9, 7)]
        one = Holding.of("bag", [letters[at] for at in (0, 1, 3, 4)], gap=2)
        other = Holding.of("bag", [letters[at] for at in (1, 2, 3, 5)], gap=2)
        self.assertEqual(unite(one, other).blocks, ((0, 3, 0, 0, (5, 6, 7)), (3, 6, 9, 9, (5, 6, 7))))

    def test_unclear(self):
        cases = [self.both([5, 7, 5], (0, 1), (1, 2)), self.both([7, 5, 7], (0, 1), (1, 2)), self.both([5, 6, 6, 5], (0, 1, 2), (1, 2, 3))]
        letters = [(number, number, 5 + number) for number in range(5)]
        cases.append([Holding.of("bag", [letters[at] for at in some], gap=1) for some in ((0, 1, 3, 4), (1, 2, 3))])
        for one, other in cases:
            kept = [parts_seen(one), parts_seen(other)]
            for ask in (lambda: unite(one, other), lambda: unite(other, one), lambda: united(one, other),
                        lambda: united(Holding.empty("bag", gap=one.gap), other, one)):
                with self.assertRaises(Unclear):
                    ask()
            self.assertEqual([parts_seen(one), parts_seen(other)], kept)

    def test_unclear_in_a_later_group(self):
        letters = [(0, 0, 5), (1, 0, 6), (2, 9, 5), (3, 9, 7), (4, 9, 5)]
        one = Holding.of("bag", [letters[at] for at in (0, 2, 3)], gap=2)
        other = Holding.of("bag", [letters[at] for at in (1, 3, 4)], gap=2)
        with self.assertRaises(Unclear):
            unite(one, other)


class FactsTest(unittest.TestCase):
    """Points 36, 37, 39 and 40."""

    def test_what_both_cover(self):
        source = random.Random(39)
        for _ in range(500):
            tape = OneTape(source)
            for kind in KIND_NAMES:
                one, other = holdings_of(tape, kind)
                union = tried(one, other)
                if union is None:
                    continue
                both = [number for number in range(-1, 40) if number in one or number in other]
                within = {number for block in union.blocks for number in range(block[0], block[1])}
                wanted = sorted({*both, *within}) if kind in OUTER else both
                self.assertEqual(numbers_of(union), wanted)
                self.assertLessEqual(union.size, one.size + other.size - 1)

    def test_when_it_is_the_first_one(self):
        source = random.Random(36)
        for _ in range(500):
            tape = OneTape(source, shares=(0.3, 0.9, 1))
            for kind in KIND_NAMES:
                one, other = holdings_of(tape, kind)
                known = [number for block in other.blocks for number in range(block[0], block[1]) if number in other]
                known = [number for number in known if number >= other.base]
                less = other.base <= one.base and all(number in one for number in known)
                self.assertIs(tried(one, other) == one, less)
                self.assertIs(tried(other, one) == one, less)

    def test_with_itself_with_none_and_with_one_letter(self):
        source = random.Random(361)
        for _ in range(500):
            tape = OneTape(source)
            for kind in KIND_NAMES:
                one, _ = holdings_of(tape, kind)
                empty = Holding.empty(kind, gap=tape.gap)
                for found in (unite(one, one), unite(one, empty), unite(empty, one), united(one), united(one, one, empty)):
                    self.assertEqual(parts_seen(found), parts_seen(one))
                for letter in tape.letters:
                    single = Holding.of(kind, [letter], gap=tape.gap)
                    wanted = one.put(*letter)
                    self.assertEqual([unite(one, single), unite(single, one)], [wanted, wanted])

    def test_in_the_other_order(self):
        source = random.Random(362)
        many = 0
        for _ in range(1500):
            letters = [(number, 0, source.choice((5, 6))) for number in range(source.randint(3, 7))]
            one, other = [Holding.of("bag", [letter for letter in letters if source.random() < 0.6], gap=0) for _ in range(2)]
            self.assertEqual(tried(one, other), tried(other, one))
            many += tried(one, other) is None
        self.assertGreater(many, 100)

    def test_in_both_groupings(self):
        source = random.Random(37)
        for _ in range(400):
            tape = OneTape(source)
            third = [letter for letter in tape.letters if source.random() < 0.5]
            base = source.choice(tape.bases)
            for kind in CLEAR:
                one, other = holdings_of(tape, kind)
                last = Holding.of(kind, third, gap=tape.gap, base=base)
                wanted = united(one, other, last)
                self.assertEqual(unite(one, unite(other, last)), wanted)
                self.assertEqual(united(last, one, other), wanted)

    def test_bags_without_common_numbers_in_both_groupings(self):
        source = random.Random(371)
        for _ in range(300):
            tape = OneTape(source)
            lists = [[], [], [], []]
            for letter in tape.letters:
                source.choice(lists).append(letter)
            holdings = [Holding.of("bag", letters, gap=tape.gap) for letters in lists[:3]]
            wanted = Holding.of("bag", sorted(lists[0] + lists[1] + lists[2]), gap=tape.gap)
            for one, other, last in itertools.permutations(holdings):
                self.assertEqual(united(one, other, last), wanted)
                self.assertEqual(unite(one, unite(other, last)), wanted)

    def test_told_ahead_of_uniting_and_behind_it(self):
        source = random.Random(40)
        for _ in range(1000):
            tape = OneTape(source, shares=(0.5, 0.9, 1))
            mark = random_mark(source, tape.letters)
            for kind in KIND_NAMES:
                one, other = holdings_of(tape, kind)
                told, left = tell(one, mark)
                empty = Holding.empty(kind, gap=tape.gap, base=left.base)
                union = tried(one, other)
                found = tried(left, other)
                self.assertEqual(found, None if union is None else unite(union, empty))
                if union is not None:
                    begun = [session for session in told if session[0] >= other.base]
                    self.assertEqual(tell(union, mark)[0][:len(begun)], begun)


class ErrorsTest(unittest.TestCase):

    def test_other_holdings(self):
        for kind in KIND_NAMES:
            one = Holding.of(kind, [(0, 0, 5)], gap=3)
            others = [Holding.of(other, [(0, 0, 5)], gap=3) for other in KIND_NAMES if other != kind]
            others += [Holding.of(kind, [(0, 0, 5)], gap=gap) for gap in (2, 4)]
            for other in others:
                for ask in (lambda: unite(one, other), lambda: unite(other, one), lambda: united(one, one, other)):
                    with self.assertRaises(OtherHolding):
                        ask()

    def test_other_holdings_come_ahead_of_unclear(self):
        one = Holding.of("bag", [(0, 0, 5), (1, 0, 6)], gap=0)
        other = Holding.of("bag", [(1, 0, 6), (2, 0, 5)], gap=1)
        with self.assertRaises(OtherHolding):
            unite(one, other)

    def test_united_goes_from_the_left(self):
        one, other = [Holding.of("bag", [(at, 0, 5), (at + 1, 0, 6 - at)], gap=0) for at in (0, 1)]
        with self.assertRaises(OtherHolding):
            united(one, Holding.empty("bag", gap=1), other)


if __name__ == "__main__":
    unittest.main()
