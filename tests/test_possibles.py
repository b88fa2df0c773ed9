"""Possible blocks and their letters: points 1, 2 and 29."""

import random
import unittest

from movedstates.blocks import blocks_from, known_numbers
from movedstates.errors import BadGap, BadKind, NoLetters
from movedstates.gates import fitting
from movedstates.holdings import Holding
from movedstates.kinds import KIND_NAMES
from movedstates.possibles import letters_for, possible
from tests.helpers import NOT_KINDS, random_letters

OUTER = ("first", "last", "ends")
# A row of each kind for a block of the numbers 2 to 6, with 4 missing where there are holes.
ROWS = {"list": (5, 6, (4, 5), 5, 7), "bag": (5, 5, 6, 7, (4, 5)), "set": (5, 6, 7, (4, 5)), "first": (5,), "last": (7,),
        "ends": (5, 7), "heads": (5, 6, (4, 5), 7), "tails": (6, (4, 5), 5, 7)}


def changed(source, kind, block):
    """The block with one or two of its parts changed a little."""
    parts = list(block)
    for _ in range(source.randint(1, 2)):
        at = source.randrange(5)
        if at < 4:
            parts[at] += source.choice((-1, 1))
        else:
            row = list(parts[4])
            deed = source.randrange(4)
            if deed == 0 and row:
                row.pop(source.randrange(len(row)))
            elif deed == 1:
                row.insert(source.randint(0, len(row)), source.choice((5, 6, 7, (3, 4))))
            elif deed == 2 and row:
                place = source.randrange(len(row))
                old = row[place]
                row[place] = source.choice((5, 6, 7))
                if isinstance(old, tuple):
                    row[place] = (old[0] + source.choice((-1, 0, 1)), old[1] + source.choice((-1, 0, 1)))
            else:
                source.shuffle(row)
            parts[4] = tuple(row)
    return tuple(parts)


class PossibleTest(unittest.TestCase):

    def answer(self, kind, *blocks, gap=2, base=0):
        found = possible(kind, list(blocks), gap=gap, base=base)
        self.assertIs(type(found), bool)
        self.assertIs(possible(kind, blocks, gap=gap, base=base), found)
        return found

    def test_no_blocks(self):
        for kind in KIND_NAMES:
            self.assertTrue(possible(kind, [], gap=0))
            self.assertTrue(possible(kind, (), gap=0, base=7))
            self.assertFalse(possible(kind, (), gap=0, base=-1))

    def test_base_and_first_low(self):
        for kind in KIND_NAMES:
            block = (2, 7, 0, 6, ROWS[kind])
            self.assertTrue(self.answer(kind, block))
            self.assertTrue(self.answer(kind, block, base=2))
            self.assertFalse(self.answer(kind, block, base=3))
            self.assertFalse(self.answer(kind, block, base=-1))

    def test_a_low_below_zero(self):
        for kind in KIND_NAMES:
            self.assertFalse(self.answer(kind, (-1, 0, 0, 0, (5, 5) if kind == "ends" else (5,))))

    def test_next_blocks(self):
        for kind in KIND_NAMES:
            block = (2, 7, 0, 6, ROWS[kind])
            row = (5, 5) if kind == "ends" else (5,)
            self.assertTrue(self.answer(kind, block, (7, 8, 9, 9, row)))
            self.assertTrue(self.answer(kind, block, (9, 10, 9, 9, row)))
            self.assertFalse(self.answer(kind, block, (6, 7, 9, 9, row)))
            self.assertFalse(self.answer(kind, block, (7, 8, 8, 8, row)))
            self.assertFalse(self.answer(kind, (7, 8, 9, 9, row), block))
            self.assertFalse(self.answer(kind, block, block))

    def test_low_below_high(self):
        for kind in KIND_NAMES:
            for high in (2, 1):
                self.assertFalse(self.answer(kind, (2, high, 0, 0, (5, 5) if kind == "ends" else (5,))))
                self.assertFalse(self.answer(kind, (2, high, 0, 0, ())))

    def test_times(self):
        for kind in KIND_NAMES:
            known = 5 if kind in OUTER else 4
            row = ROWS[kind]
            self.assertTrue(self.answer(kind, (2, 7, 0, 2 * (known - 1), row)))
            self.assertFalse(self.answer(kind, (2, 7, 0, 2 * (known - 1) + 1, row)))
            self.assertTrue(self.answer(kind, (2, 7, 5, 5, row)))
            self.assertFalse(self.answer(kind, (2, 7, 5, 4, row)))
            self.assertTrue(self.answer(kind, (2, 7, -5, -5, row), gap=0))
            self.assertFalse(self.answer(kind, (2, 7, -5, -4, row), gap=0))

    def test_holes(self):
        """Each condition on holes, broken, under the kinds that have them."""
        def row(kind, *holes):
            if kind == "bag":
                return (5, 6, 7) + holes
            if kind == "set":
                return (5, 6) + holes
            first, second = holes
            return (5, first, 6, second, 7)
        for kind in ("list", "heads", "tails", "bag", "set"):
            self.assertTrue(self.answer(kind, (2, 9, 0, 0, row(kind, (3, 5), (6, 8)))))
            for holes in (((3, 5), (6, 9)), ((2, 5), (6, 8)), ((1, 5), (6, 8)), ((3, 3), (4, 8)), ((5, 3), (6, 8)),
                          ((3, 5), (5, 8)), ((3, 5), (4, 8)), ((6, 8), (3, 5)), ((3, 5), (6, 10)), ((3, 6), (6, 8)),
                          ((3, 5), (8, 6)), ((3, 5), (6, 6))):
                with self.subTest(f"{kind} {holes}"):
                    self.assertFalse(self.answer(kind, (2, 9, 0, 0, row(kind, *holes))))

    def test_outer_kinds_have_no_holes(self):
        for kind in OUTER:
            self.assertFalse(self.answer(kind, (2, 7, 0, 3, ROWS[kind] + ((4, 5),))))
            self.assertFalse(self.answer(kind, (2, 7, 0, 3, ((4, 5),) + ROWS[kind])))
            self.assertFalse(self.answer(kind, (2, 7, 0, 3, ((4, 5),))))

    def rows(self, kind, wanted, *rows):
        for row in rows:
            with self.subTest(f"{kind} {row}"):
                self.assertIs(self.answer(kind, (2, 7, 0, 2, row)), wanted)

    def test_rows_of_list(self):
        self.rows("list", True, (5, 5, (4, 5), 5, 7), (5, 6, 7, 8, 9), (5, (3, 6), 5))
        self.rows("list", False, (5, 6, (4, 5), 5), (5, (4, 5), 5, 6), (5, 6, 7, (4, 5), 8), (5, (4, 5), 6, 7, 8), (5, 6, 7, 8),
                  (5, 6, 7, 8, 9, 9), (), ((4, 5),), (5, 6, (4, 5), 5, 7, 7), (5, 6, 5, 7, (4, 5)))

    def test_rows_of_heads(self):
        self.rows("heads", True, (5, (4, 5)), (5, 6, (4, 5)), (5, (4, 5), 6), (5, (4, 5), 6, 7), (9, 6, (4, 5), 7, 8), (5,),
                  (9, 8, 7, 6, 5))
        self.rows("heads", False, ((4, 5),), ((4, 5), 5), (5, 5, (4, 5)), (5, (4, 5), 5), (5, 6, 7, (4, 5)),
                  (5, (4, 5), 6, 7, 8), (), (1, 2, 3, 4, 5, 6))

    def test_rows_of_tails(self):
        self.rows("tails", True, ((4, 5), 5), ((4, 5), 5, 6), (5, (4, 5), 6), (5, 7, (4, 5), 6), (9, 6, (4, 5), 7, 8), (5,),
                  (9, 8, 7, 6, 5))
        self.rows("tails", False, ((4, 5),), (5, (4, 5)), ((4, 5), 5, 5), (5, (4, 5), 5), (5, 6, 7, (4, 5), 8),
                  ((4, 5), 5, 6, 7), (), (1, 2, 3, 4, 5, 6))

    def test_rows_of_bag(self):
        self.rows("bag", True, (5, 5, 5, 5, (4, 5)), (1, 2, 3, 4, (4, 5)), (1, 2, 2, 3, 4), (5, 6, (3, 6)))
        self.rows("bag", False, (5, 5, 5, (4, 5)), (5, 5, 5, 5, 5, (4, 5)), (2, 1, 3, 4, (4, 5)), (1, 2, (4, 5), 3, 4), (),
                  ((4, 5), 1, 2, 3, 4), (1, 2, 3, 4), (1, 2, 3, 4, 5, 6), ((4, 5),))

    def test_rows_of_set(self):
        self.rows("set", True, (5, (4, 5)), (1, 2, 3, 4, (4, 5)), (1, 2, 3, 4, 5), (5,), (-5, 6, (3, 6)))
        self.rows("set", False, (5, 5, (4, 5)), (1, 2, 3, 4, 5, (4, 5)), (2, 1, (4, 5)), (1, (4, 5), 2), (), ((4, 5),),
                  ((4, 5), 5), (1, 2, 3, 4, 5, 6))

    def test_rows_of_first_and_last(self):
        for kind in ("first", "last"):
            self.rows(kind, True, (5,), (-9,))
            self.rows(kind, False, (), (5, 5), (5, 6), (5, (4, 5)))

    def test_rows_of_ends(self):
        self.rows("ends", True, (5, 6), (5, 5), (6, 5))
        self.rows("ends", False, (), (5,), (5, 6, 7))
        self.assertTrue(self.answer("ends", (2, 3, 0, 0, (5, 5))))
        self.assertFalse(self.answer("ends", (2, 3, 0, 0, (5, 6))))
        self.assertTrue(self.answer("ends", (2, 4, 0, 0, (5, 6))))

    def test_all_that_letters_have_is_possible(self):
        source = random.Random(29)
        for _ in range(150):
            letters = random_letters(source, full=False)
            gap = source.randint(0, 4)
            for kind in KIND_NAMES:
                for base in (0, 1, 2):
                    holding = Holding.of(kind, letters, gap=gap, base=base)
                    self.assertTrue(self.answer(kind, *holding.blocks, gap=gap, base=base))

    def test_what_is_possible_has_letters(self):
        source = random.Random(291)
        found = 0
        for _ in range(4000):
            kind = source.choice(KIND_NAMES)
            gap = source.randint(0, 2)
            blocks = [changed(source, kind, block) if source.random() < 0.7 else block
                      for block in blocks_from(kind, random_letters(source, most=4, full=False), gap=gap)]
            if self.answer(kind, *blocks, gap=gap):
                found += 1
                self.assertEqual(blocks_from(kind, letters_for(kind, blocks, gap=gap), gap=gap), tuple(blocks))
            else:
                with self.assertRaises(NoLetters):
                    letters_for(kind, blocks, gap=gap)
        self.assertGreater(found, 400)

    def test_great_numbers(self):
        self.assertTrue(self.answer("set", (10 ** 9, 10 ** 10, -10 ** 23, 10 ** 23, (10 ** 23,)), gap=10 ** 23))
        self.assertTrue(self.answer("list", (10 ** 9, 10 ** 10, 4, 4, (1, (10 ** 9 + 1, 10 ** 10 - 1), 1)), gap=0))


class LettersForTest(unittest.TestCase):

    def test_letters(self):
        for kind in KIND_NAMES:
            block = (2, 7, 0, 6, ROWS[kind])
            for blocks in ([block], (block,), [block, (9, 10, 9, 9, (5, 5) if kind == "ends" else (5,))], []):
                letters = letters_for(kind, blocks, gap=2)
                self.assertIs(type(letters), list)
                self.assertTrue(fitting(letters))
                known = [number for one in blocks for number in known_numbers(one)]
                self.assertEqual([letter[0] for letter in letters], known)
                self.assertEqual(blocks_from(kind, letters, gap=2), tuple(blocks))

    def test_letters_with_few_values(self):
        for kind, row in (("heads", (9, (4, 6))), ("heads", (9, (4, 6), 8, (8, 9), 7)), ("tails", ((4, 6), 9)),
                          ("tails", ((4, 6), 8, (8, 9), 9)), ("set", (9, (4, 6))), ("set", (8, 9))):
            block = (2, 11, 0, 3, row)
            self.assertEqual(blocks_from(kind, letters_for(kind, [block], gap=3), gap=3), (block,))

    def test_no_letters(self):
        for kind in KIND_NAMES:
            with self.assertRaises(NoLetters):
                letters_for(kind, [(-1, 0, 0, 0, (5, 5) if kind == "ends" else (5,))], gap=0)
            with self.assertRaises(NoLetters):
                letters_for(kind, [(0, 1, 0, 0, ())], gap=0)

    def test_the_list_stays(self):
        blocks = [(2, 7, 0, 6, ROWS["heads"])]
        letters_for("heads", blocks, gap=2)
        self.assertEqual(blocks, [(2, 7, 0, 6, ROWS["heads"])])


class MadeTest(unittest.TestCase):

    def test_made(self):
        for kind in KIND_NAMES:
            block = (2, 7, 0, 6, ROWS[kind])
            for base in (0, 1, 2):
                made = Holding.made(kind, [block], gap=2, base=base)
                self.assertEqual([made.kind, made.gap, made.base, made.blocks], [kind, 2, base, (block,)])
                self.assertEqual(Holding.made(kind, (block,), gap=2, base=base), made)
                self.assertEqual(Holding.of(kind, letters_for(kind, [block], gap=2), gap=2, base=base), made)
            with self.assertRaises(NoLetters):
                Holding.made(kind, [block], gap=2, base=3)
            with self.assertRaises(NoLetters):
                Holding.made(kind, [(2, 7, 0, 16, ROWS[kind])], gap=2)

    def test_the_list_is_copied(self):
        blocks = [(2, 7, 0, 6, ROWS["list"])]
        made = Holding.made("list", blocks, gap=2)
        blocks.clear()
        self.assertEqual(len(made), 1)


class ErrorsTest(unittest.TestCase):

    def test_bad_kind_and_then_bad_gap(self):
        wrong = [(0, 0, 0, 0, ())]
        calls = [lambda kind, gap: possible(kind, wrong, gap=gap, base=-1), lambda kind, gap: letters_for(kind, wrong, gap=gap),
                 lambda kind, gap: Holding.made(kind, wrong, gap=gap)]
        for call in calls:
            for thing in NOT_KINDS:
                with self.assertRaises(BadKind) as caught:
                    call(thing, -1)
                self.assertIs(caught.exception.name, thing)
            with self.assertRaises(BadGap) as caught:
                call("set", -1)
            self.assertEqual(caught.exception.gap, -1)


if __name__ == "__main__":
    unittest.main()
