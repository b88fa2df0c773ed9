"""Blocks: point 22, and what point 24 says of joined blocks."""

import random
import unittest

from movedstates.blocks import (blocks_from, covers, joined_blocks, known_numbers, letter_block, spread, stretches)
from movedstates.errors import BadGap, BadKind
from movedstates.kinds import KIND_NAMES
from movedstates.rows import row_from
from tests.helpers import NOT_KINDS, random_letters

LETTERS = [(3, 0, 5), (4, 2, 6), (7, 2, 5), (8, 5, 7), (11, 6, 6), (20, 40, 5)]
OUTER = ("first", "last", "ends")


def blocks_by_the_words(kind, letters, gap):
    """The blocks of fitting letters, straight from point 22."""
    letters = sorted(letters)
    found = []
    for at, (number, time, value) in enumerate(letters):
        if at == 0 or time - letters[at - 1][1] > gap:
            found.append([number, number + 1, time, time, [value]])
        else:
            block = found[-1]
            if number > block[1]:
                block[4].append((block[1], number))
            block[1], block[3] = number + 1, time
            block[4].append(value)
    return tuple((low, high, first, last, row_from(kind, entries)) for low, high, first, last, entries in found)


class BlocksFromTest(unittest.TestCase):

    def test_at_the_gap_and_one_above_it(self):
        self.assertEqual(blocks_from("list", LETTERS, gap=3),
                         ((3, 12, 0, 6, (5, 6, (5, 7), 5, 7, (9, 11), 6)), (20, 21, 40, 40, (5,))))
        self.assertEqual(blocks_from("list", LETTERS, gap=2),
                         ((3, 8, 0, 2, (5, 6, (5, 7), 5)), (8, 12, 5, 6, (7, (9, 11), 6)), (20, 21, 40, 40, (5,))))

    def test_each_kind(self):
        rows = {"list": (5, 6, (5, 7), 5, 7, (9, 11), 6), "bag": (5, 5, 6, 6, 7, (5, 7), (9, 11)),
                "set": (5, 6, 7, (5, 7), (9, 11)), "first": (5,), "last": (6,), "ends": (5, 6),
                "heads": (5, 6, (5, 7), 7, (9, 11)), "tails": ((5, 7), 5, 7, (9, 11), 6)}
        for kind in KIND_NAMES:
            self.assertEqual(blocks_from(kind, LETTERS[:5], gap=3), ((3, 12, 0, 6, rows[kind]),))

    def test_any_order(self):
        source = random.Random(22)
        for _ in range(200):
            letters = random_letters(source, full=False)
            gap = source.randint(0, 4)
            shuffled = list(letters)
            source.shuffle(shuffled)
            kept = list(shuffled)
            for kind in KIND_NAMES:
                self.assertEqual(blocks_from(kind, shuffled, gap=gap), blocks_by_the_words(kind, letters, gap))
            self.assertEqual(shuffled, kept)

    def test_no_letters(self):
        self.assertEqual(blocks_from("list", [], gap=0), ())

    def test_letter_block(self):
        for kind in KIND_NAMES:
            row = (-5, -5) if kind == "ends" else (-5,)
            self.assertEqual(letter_block(kind, 4, 9, -5), (4, 5, 9, 9, row))
            self.assertEqual(blocks_from(kind, [(4, 9, -5)], gap=0), (letter_block(kind, 4, 9, -5),))


class NumbersTest(unittest.TestCase):

    BLOCK = (3, 12, 0, 6, (5, 6, (5, 7), 5, 7, (9, 11), 6))

    def test_spread(self):
        self.assertEqual([number for number in range(-2, 15) if spread(self.BLOCK, number)], list(range(3, 12)))
        self.assertIs(spread(self.BLOCK, 6), True)
        self.assertIs(spread(self.BLOCK, 12), False)

    def test_covers(self):
        self.assertEqual([number for number in range(-2, 15) if covers(self.BLOCK, number)], [3, 4, 7, 8, 11])
        self.assertIs(covers(self.BLOCK, 7), True)
        self.assertIs(covers(self.BLOCK, 6), False)
        self.assertIs(covers(self.BLOCK, 2), False)

    def test_known_numbers(self):
        self.assertEqual(known_numbers(self.BLOCK), [3, 4, 7, 8, 11])
        known_numbers(self.BLOCK).clear()
        self.assertEqual(known_numbers(self.BLOCK), [3, 4, 7, 8, 11])

    def test_known_numbers_of_each_kind(self):
        for kind in KIND_NAMES:
            block = blocks_from(kind, LETTERS[:5], gap=3)[0]
            known = list(range(3, 12)) if kind in OUTER else [3, 4, 7, 8, 11]
            self.assertEqual(known_numbers(block), known)
            self.assertEqual([number for number in range(15) if covers(block, number)], known)
            self.assertEqual([number for number in range(15) if spread(block, number)], list(range(3, 12)))

    def test_stretches(self):
        self.assertEqual(stretches(self.BLOCK), [(3, 5, (5, 6)), (7, 9, (5, 7)), (11, 12, (6,))])
        heads = blocks_from("heads", LETTERS[:5], gap=3)[0]
        self.assertEqual(stretches(heads), [(3, 5, (5, 6)), (7, 9, (7,)), (11, 12, ())])
        tails = blocks_from("tails", LETTERS[:5], gap=3)[0]
        self.assertEqual(stretches(tails), [(3, 5, ()), (7, 9, (5, 7)), (11, 12, (6,))])
        self.assertEqual(stretches((4, 6, 1, 1, (5, 5))), [(4, 6, (5, 5))])

    def test_stretches_of_other_kinds(self):
        for kind in ("bag", "set"):
            block = blocks_from(kind, LETTERS[:5], gap=3)[0]
            self.assertEqual([piece[:2] for piece in stretches(block)], [(3, 5), (7, 9), (11, 12)])
        for kind in OUTER:
            block = blocks_from(kind, LETTERS[:5], gap=3)[0]
            self.assertEqual([piece[:2] for piece in stretches(block)], [(3, 12)])


class JoinedBlocksTest(unittest.TestCase):

    def test_with_numbers_between_and_without(self):
        left, right = (0, 2, 1, 3, (5, 6)), (4, 5, 4, 9, (6,))
        self.assertEqual(joined_blocks("list", left, right), (0, 5, 1, 9, (5, 6, (2, 4), 6)))
        self.assertEqual(joined_blocks("list", left, (2, 5, 4, 9, (6, (3, 4), 7))), (0, 5, 1, 9, (5, 6, 6, (3, 4), 7)))
        self.assertEqual(joined_blocks("ends", (0, 2, 1, 3, (5, 6)), (4, 5, 4, 9, (6, 7))), (0, 5, 1, 9, (5, 7)))

    def test_joined_blocks_are_those_of_the_letters(self):
        source = random.Random(24)
        for _ in range(150):
            letters = random_letters(source, full=False)
            for kind in KIND_NAMES:
                for at in range(1, len(letters)):
                    if letters[-1][1] - letters[0][1] <= 20:
                        left, = blocks_from(kind, letters[:at], gap=20)
                        right, = blocks_from(kind, letters[at:], gap=20)
                        self.assertEqual((joined_blocks(kind, left, right),), blocks_from(kind, letters, gap=20))


class ErrorsTest(unittest.TestCase):

    def test_bad_kind_comes_first(self):
        block = (0, 1, 0, 0, (5,))
        calls = [lambda kind: letter_block(kind, 0, 0, 5), lambda kind: joined_blocks(kind, block, (1, 2, 0, 0, (5,))),
                 lambda kind: blocks_from(kind, [], gap=-1)]
        for call in calls:
            for thing in NOT_KINDS:
                with self.assertRaises(BadKind) as caught:
                    call(thing)
                self.assertIs(caught.exception.name, thing)

    def test_bad_gap(self):
        with self.assertRaises(BadGap) as caught:
            blocks_from("list", [], gap=-7)
        self.assertEqual(caught.exception.gap, -7)


if __name__ == "__main__":
    unittest.main()
