"""Joined stretches: points 32 and 33, with 21 and 22."""

import itertools
import random
import unittest

from movedstates.blocks import block_of, stretches
from movedstates.errors import BadKind
from movedstates.segments import joined_stretches
from tests.helpers import NOT_KINDS

PLACED = ("list", "heads", "tails")


def by_the_words(kind, pieces):
    """The row of the stretches, read as point 33 says, number by number."""
    numbers = sorted({number for start, end, _ in pieces for number in range(start, end)})
    runs = [[numbers[0]]]
    for number in numbers[1:]:
        if number > runs[-1][-1] + 1:
            runs.append([])
        runs[-1].append(number)
    places = {}
    if kind == "list":
        places = {start + at: value for start, _, values in pieces for at, value in enumerate(values)}
        rows = [[places[number] for number in run] for run in runs]
    else:
        late = kind == "tails"
        order = sorted(pieces, key=lambda piece: piece[1] if late else piece[0])
        read = [(value, piece[0]) for piece in order for value in piece[2]]
        for at, (value, number) in enumerate(read):
            if late or value not in places:
                places[value] = (at, number)
        rows = [[value for value in sorted(places, key=places.get) if places[value][1] in run] for run in runs]
    row = list(rows[0])
    for before, behind, values in zip(runs, runs[1:], rows[1:]):
        row += [(before[-1] + 1, behind[0])] + values
    return tuple(row)


def random_pieces(source):
    """Letters of one session, and the stretches of some blocks of them."""
    letters = [(number, 0, source.choice((4, 5, 6, 7, 8))) for number in range(source.randint(1, 9))]
    lists = []
    for _ in range(source.randint(1, 4)):
        some = [letter for letter in letters if source.random() < source.choice((0.3, 0.7))]
        lists.append(some or [source.choice(letters)])
    return lists


class JoinedStretchesTest(unittest.TestCase):

    def test_side_by_side(self):
        pieces = [(2, 4, (5, 6)), (4, 6, (7, 5))]
        self.assertEqual(joined_stretches("list", pieces), (5, 6, 7, 5))
        self.assertEqual(joined_stretches("heads", pieces), (5, 6, 7))
        self.assertEqual(joined_stretches("tails", pieces), (6, 7, 5))

    def test_overlapping(self):
        pieces = [(2, 5, (5, 6, 7)), (4, 6, (7, 5))]
        self.assertEqual(joined_stretches("list", pieces), (5, 6, 7, 5))
        self.assertEqual(joined_stretches("heads", pieces), (5, 6, 7))
        self.assertEqual(joined_stretches("tails", pieces), (6, 7, 5))

    def test_within_each_other(self):
        pieces = [(2, 7, (5, 6, 7, 6, 8)), (3, 5, (6, 7)), (3, 6, (6, 7, 6)), (2, 3, (5,)), (6, 7, (8,))]
        self.assertEqual(joined_stretches("list", pieces), (5, 6, 7, 6, 8))
        # A block knows of the value that it has ahead of a stretch, or behind it, and does not write it there again.
        self.assertEqual(joined_stretches("heads", [(2, 7, (5, 6, 7, 8)), (3, 5, (6, 7)), (6, 7, (8,))]), (5, 6, 7, 8))
        self.assertEqual(joined_stretches("tails", [(2, 7, (5, 7, 6, 8)), (3, 5, (6, 7)), (6, 7, (8,))]), (5, 7, 6, 8))

    def test_with_holes(self):
        pieces = [(9, 10, (5,)), (2, 3, (5,)), (6, 7, (7,)), (5, 6, (6,))]
        self.assertEqual(joined_stretches("list", pieces), (5, (3, 5), 6, 7, (7, 9), 5))
        self.assertEqual(joined_stretches("heads", pieces), (5, (3, 5), 6, 7, (7, 9)))
        self.assertEqual(joined_stretches("tails", pieces), ((3, 5), 6, 7, (7, 9), 5))

    def test_holes_side_by_side(self):
        self.assertEqual(joined_stretches("heads", [(0, 1, (5,)), (2, 3, ()), (4, 5, (6,))]), (5, (1, 2), (3, 4), 6))
        self.assertEqual(joined_stretches("tails", [(0, 1, (5,)), (2, 3, (6,)), (4, 5, (6,))]), (5, (1, 2), (3, 4), 6))

    def test_one_stretch_and_the_same_one_again(self):
        for kind in PLACED:
            self.assertEqual(joined_stretches(kind, [(3, 5, (8, 7))]), (8, 7))
            self.assertEqual(joined_stretches(kind, [(3, 5, (8, 7))] * 3), (8, 7))

    def test_any_order_of_pieces(self):
        pieces = [(0, 3, (5, 6, 7)), (2, 4, (7, 8)), (5, 6, (9,)), (6, 8, (4, 3))]
        for kind in PLACED:
            wanted = joined_stretches(kind, pieces)
            self.assertEqual(wanted, (5, 6, 7, 8, (4, 5), 9, 4, 3))
            for order in itertools.permutations(pieces):
                self.assertEqual(joined_stretches(kind, list(order)), wanted)

    def test_is_the_row_of_the_letters(self):
        source = random.Random(33)
        for _ in range(1500):
            lists = random_pieces(source)
            letters = sorted({letter for some in lists for letter in some})
            for kind in PLACED:
                pieces = [piece for some in lists for piece in stretches(block_of(kind, some))]
                source.shuffle(pieces)
                kept = list(pieces)
                found = joined_stretches(kind, pieces)
                self.assertEqual(found, block_of(kind, letters)[4])
                self.assertEqual(found, by_the_words(kind, pieces))
                self.assertEqual(pieces, kept)

    def test_example(self):
        self.assertEqual(joined_stretches("tails", [(5, 8, (4, 7)), (0, 3, (7, 4, 9)), (2, 4, (9, 6))]), (9, 6, (4, 5), 4, 7))

    def test_bad_kind(self):
        for thing in NOT_KINDS:
            with self.assertRaises(BadKind) as caught:
                joined_stretches(thing, [(0, 1, (5,))])
            self.assertIs(caught.exception.name, thing)


if __name__ == "__main__":
    unittest.main()
