"""Holdings: points 1 to 3, 22 to 25 and the text of 30."""

import itertools
import random
import unittest

from movedstates.blocks import blocks_from
from movedstates.errors import BadGap, BadKind, BadText, NotFitting, OutOfOrder
from movedstates.holdings import Holding
from movedstates.kinds import KIND_NAMES
from tests.helpers import NOT_KINDS, random_letters

OUTER = ("first", "last", "ends")
LETTERS = [(3, 0, 5), (4, 2, 6), (7, 2, 5), (8, 5, 7), (11, 6, 6), (20, 40, 5)]


def parts(holding):
    return [holding.kind, holding.gap, holding.base, holding.blocks]


class OfTest(unittest.TestCase):

    def test_blocks(self):
        for kind in KIND_NAMES:
            for gap in (0, 2, 3, 40):
                holding = Holding.of(kind, LETTERS, gap=gap)
                self.assertEqual(parts(holding), [kind, gap, 0, blocks_from(kind, LETTERS, gap=gap)])

    def test_base(self):
        for kind in KIND_NAMES:
            for base in (0, 3, 4, 5, 9, 21, 30):
                kept = [letter for letter in LETTERS if letter[0] >= base]
                holding = Holding.of(kind, LETTERS, gap=3, base=base)
                self.assertEqual(parts(holding), [kind, 3, base, blocks_from(kind, kept, gap=3)])

    def test_any_order(self):
        letters = LETTERS[::-1]
        self.assertEqual(Holding.of("list", letters, gap=3), Holding.of("list", LETTERS, gap=3))
        self.assertEqual(letters, LETTERS[::-1])

    def test_empty(self):
        for kind in KIND_NAMES:
            self.assertEqual(parts(Holding.empty(kind, gap=3)), [kind, 3, 0, ()])
            self.assertEqual(parts(Holding.empty(kind, gap=0, base=8)), [kind, 0, 8, ()])
            self.assertEqual(Holding.empty(kind, gap=0, base=8), Holding.of(kind, [], gap=0, base=8))

    def test_not_fitting(self):
        for letters in ([(0, 1, 5), (0, 1, 5)], [(0, 1, 5), (1, 0, 5)], [(9, 1, 5), (8, 2, 5)], [(9, 9, 5), (1, 3, 1), (0, 5, 1)]):
            for base in (0, 2, 20):
                with self.assertRaises(NotFitting):
                    Holding.of("set", letters, gap=9, base=base)

    def test_bad_kind_and_then_bad_gap(self):
        calls = [lambda kind, gap: Holding.empty(kind, gap=gap),
                 lambda kind, gap: Holding.of(kind, [(0, 1, 5), (0, 1, 5)], gap=gap)]
        for call in calls:
            for thing in NOT_KINDS:
                with self.assertRaises(BadKind) as caught:
                    call(thing, -1)
                self.assertIs(caught.exception.name, thing)
            with self.assertRaises(BadGap) as caught:
                call("ends", -1)
            self.assertEqual(caught.exception.gap, -1)

    def test_methods_stand_in_the_class(self):
        for name in ("empty", "of", "made", "read", "write", "put", "room", "missing", "__contains__", "__len__", "__iter__",
                     "__eq__", "top", "size"):
            self.assertIn(name, vars(Holding))
        for name in ("empty", "of", "made", "read"):
            self.assertIsInstance(vars(Holding)[name], classmethod)
        for name in ("top", "size"):
            self.assertIsInstance(vars(Holding)[name], property)


class QuestionsTest(unittest.TestCase):

    def test_covered_and_missing_numbers(self):
        holding = Holding.of("list", LETTERS, gap=3, base=2)
        covered = [-7, -1, 0, 1, 3, 4, 7, 8, 11, 20]
        self.assertEqual([number for number in range(-7, 25) if number in holding], list(range(-7, 2)) + covered[4:])
        self.assertIs(-1 in holding, True)
        self.assertIs(5 in holding, False)

    def test_covered_numbers_of_outer_kinds(self):
        for kind in OUTER:
            holding = Holding.of(kind, LETTERS, gap=3)
            self.assertEqual([number for number in range(0, 25) if number in holding], list(range(3, 12)) + [20])

    def test_numbers_below_zero_are_covered(self):
        for kind in KIND_NAMES:
            self.assertIs(-1 in Holding.empty(kind, gap=0), True)
            self.assertIs(0 in Holding.empty(kind, gap=0), False)

    def test_top(self):
        self.assertEqual(Holding.of("set", LETTERS, gap=3, base=1).top, 21)
        self.assertEqual([Holding.empty("set", gap=3).top, Holding.empty("set", gap=3, base=9).top], [0, 9])

    def test_size(self):
        sizes = {"list": 1 + (4 + 5 + 4) + 5, "bag": 1 + (4 + 5 + 4) + 5, "set": 1 + (4 + 3 + 4) + 5, "first": 1 + 5 + 5,
                 "last": 1 + 5 + 5, "ends": 1 + 6 + 6, "heads": 1 + (4 + 3 + 4) + 5, "tails": 1 + (4 + 3 + 4) + 5}
        for kind in KIND_NAMES:
            self.assertEqual(Holding.of(kind, LETTERS, gap=3).size, sizes[kind])
            self.assertEqual(Holding.empty(kind, gap=3, base=4).size, 1)

    def test_length_and_iteration(self):
        for kind in KIND_NAMES:
            holding = Holding.of(kind, LETTERS, gap=2)
            self.assertEqual(len(holding), 3)
            self.assertEqual(tuple(holding), holding.blocks)
            self.assertEqual([block[0] for block in holding], [3, 8, 20])
            self.assertEqual(list(Holding.empty(kind, gap=2)), [])

    def test_equality(self):
        holding = Holding.of("list", LETTERS[:2], gap=3, base=1)
        self.assertIs(holding == Holding.of("list", LETTERS[1::-1], gap=3, base=1), True)
        self.assertIs(holding != Holding.of("list", LETTERS[1::-1], gap=3, base=1), False)
        others = [Holding.of("heads", LETTERS[:2], gap=3, base=1), Holding.of("list", LETTERS[:2], gap=4, base=1),
                  Holding.of("list", LETTERS[:2], gap=3, base=0), Holding.of("list", LETTERS[:3], gap=3, base=1),
                  Holding.of("list", LETTERS[:1], gap=3, base=1), Holding.empty("list", gap=3, base=1)]
        for other in others:
            self.assertIs(holding == other, False)
            self.assertIs(holding != other, True)
        for thing in (None, 0, [], holding.blocks, holding.write(), object()):
            self.assertIs(holding == thing, False)

    def test_missing(self):
        holding = Holding.of("list", LETTERS, gap=3, base=1)
        self.assertEqual(holding.missing(23), [(1, 3), (5, 7), (9, 11), (12, 20), (21, 23)])
        self.assertEqual(holding.missing(21), [(1, 3), (5, 7), (9, 11), (12, 20)])
        self.assertEqual(holding.missing(6), [(1, 3), (5, 6)])
        self.assertEqual(holding.missing(5), [(1, 3)])
        self.assertEqual(holding.missing(2), [(1, 2)])
        self.assertEqual([holding.missing(1), holding.missing(0), holding.missing(-5)], [[], [], []])
        self.assertEqual(Holding.of("ends", LETTERS, gap=3).missing(23), [(0, 3), (12, 20), (21, 23)])
        self.assertEqual(Holding.empty("bag", gap=3, base=2).missing(5), [(2, 5)])

    def test_missing_is_what_is_not_covered(self):
        source = random.Random(23)
        for _ in range(100):
            letters = random_letters(source, full=False)
            base = source.randint(0, 3)
            for kind in KIND_NAMES:
                holding = Holding.of(kind, letters, gap=2, base=base)
                for count in (0, 3, 8, 30):
                    runs = holding.missing(count)
                    self.assertEqual([number for start, end in runs for number in range(start, end)],
                                     [number for number in range(count) if number not in holding])
                    self.assertTrue(all(one[1] < other[0] for one, other in zip(runs, runs[1:])))


class RoomTest(unittest.TestCase):

    def test_before_between_behind_and_in_a_hole(self):
        holding = Holding.of("set", LETTERS, gap=3, base=1)
        wanted = {1: (None, 0), 2: (None, 0), 5: (0, 6), 6: (0, 6), 9: (0, 6), 10: (0, 6), 12: (6, 40), 19: (6, 40),
                  21: (40, None), 900: (40, None)}
        for number, room in wanted.items():
            self.assertEqual(holding.room(number), room)

    def test_covered_numbers_have_no_room(self):
        holding = Holding.of("set", LETTERS, gap=3, base=1)
        for number in (-4, 0, 3, 4, 7, 8, 11, 20):
            self.assertIsNone(holding.room(number))

    def test_without_blocks(self):
        for kind in KIND_NAMES:
            holding = Holding.empty(kind, gap=3, base=2)
            self.assertEqual([holding.room(2), holding.room(9), holding.room(1)], [(None, None), (None, None), None])

    def test_two_blocks(self):
        holding = Holding.of("first", LETTERS, gap=2)
        self.assertEqual([holding.room(0), holding.room(5), holding.room(15)], [(None, 0), None, (6, 40)])


class PutTest(unittest.TestCase):

    def test_bounds_of_a_room(self):
        for kind in KIND_NAMES:
            holding = Holding.of(kind, LETTERS, gap=3, base=1)
            before = parts(holding)
            numbers = (1, 12, 19, 21, 25) if kind in OUTER else (1, 5, 6, 10, 12, 19, 21, 25)
            for number in numbers:
                least, most = holding.room(number)
                for bound, step in ((least, -1), (most, 1)):
                    if bound is not None:
                        self.assertIn(number, holding.put(number, bound, 9))
                        for far in (1, 50):
                            with self.assertRaises(OutOfOrder) as caught:
                                holding.put(number, bound + step * far, 9)
                            self.assertEqual(caught.exception.letter, (number, bound + step * far, 9))
            self.assertEqual(parts(holding), before)

    def test_a_covered_letter_changes_nothing(self):
        for kind in KIND_NAMES:
            holding = Holding.of(kind, LETTERS, gap=3, base=1)
            for number in (-3, 0, 3, 4, 8, 20) + ((5, 10) if kind in OUTER else ()):
                for time in (-99, 0, 3, 99):
                    self.assertEqual(holding.put(number, time, 77), holding)

    def test_a_hole_is_split_cut_or_filled(self):
        holding = Holding.of("list", [(0, 0, 5), (4, 3, 6), (6, 3, 7)], gap=3)
        self.assertEqual(holding.blocks, ((0, 7, 0, 3, (5, (1, 4), 6, (5, 6), 7)),))
        self.assertEqual(holding.put(2, 1, 9).blocks, ((0, 7, 0, 3, (5, (1, 2), 9, (3, 4), 6, (5, 6), 7)),))
        self.assertEqual(holding.put(1, 0, 9).blocks, ((0, 7, 0, 3, (5, 9, (2, 4), 6, (5, 6), 7)),))
        self.assertEqual(holding.put(3, 3, 9).blocks, ((0, 7, 0, 3, (5, (1, 3), 9, 6, (5, 6), 7)),))
        self.assertEqual(holding.put(5, 2, 9).blocks, ((0, 7, 0, 3, (5, (1, 4), 6, 9, 7)),))

    def test_a_letter_that_does_not_fit_is_let_into_a_hole(self):
        holding = Holding.of("list", [(0, 0, 5), (1, 3, 6), (3, 5, 7)], gap=3)
        self.assertEqual(holding.put(2, 1, 9).blocks, ((0, 4, 0, 5, (5, 6, 9, 7)),))

    def test_joined_with_the_block_before_behind_both_or_neither(self):
        holding = Holding.of("heads", [(0, 0, 5), (4, 10, 5), (5, 10, 6)], gap=3)
        self.assertEqual(holding.put(2, 3, 7).blocks, ((0, 3, 0, 3, (5, (1, 2), 7)), (4, 6, 10, 10, (5, 6))))
        self.assertEqual(holding.put(1, 3, 7).blocks, ((0, 2, 0, 3, (5, 7)), (4, 6, 10, 10, (5, 6))))
        self.assertEqual(holding.put(2, 7, 7).blocks, ((0, 1, 0, 0, (5,)), (2, 6, 7, 10, (7, (3, 4), 5, 6))))
        self.assertEqual(holding.put(3, 7, 7).blocks, ((0, 1, 0, 0, (5,)), (3, 6, 7, 10, (7, 5, 6))))
        for time in (4, 6):
            self.assertEqual(holding.put(2, time, 7).blocks,
                             ((0, 1, 0, 0, (5,)), (2, 3, time, time, (7,)), (4, 6, 10, 10, (5, 6))))
        both = Holding.of("heads", [(0, 0, 5), (4, 6, 5), (5, 10, 6)], gap=3).put(2, 3, 7)
        self.assertEqual(both.blocks, ((0, 5, 0, 6, (5, (1, 2), 7, (3, 4))), (5, 6, 10, 10, (6,))))

    def test_before_and_behind_all_blocks(self):
        holding = Holding.of("ends", [(4, 10, 5)], gap=3)
        self.assertEqual(holding.put(2, 7, 6).blocks, ((2, 5, 7, 10, (6, 5)),))
        self.assertEqual(holding.put(2, 6, 6).blocks, ((2, 3, 6, 6, (6, 6)), (4, 5, 10, 10, (5, 5))))
        self.assertEqual(holding.put(6, 13, 6).blocks, ((4, 7, 10, 13, (5, 6)),))
        self.assertEqual(holding.put(6, 14, 6).blocks, ((4, 5, 10, 10, (5, 5)), (6, 7, 14, 14, (6, 6))))

    def test_a_holding_never_changes(self):
        holding = Holding.of("bag", LETTERS, gap=3)
        before = parts(holding)
        holding.put(5, 3, 9)
        holding.put(30, 41, 9)
        self.assertEqual(parts(holding), before)

    def test_every_order(self):
        source = random.Random(25)
        for _ in range(12):
            letters = random_letters(source, most=5, full=False)
            kind, gap = source.choice(KIND_NAMES), source.randint(0, 3)
            base = letters[0][0] if letters and source.random() < 0.5 else 0
            letters = [letter for letter in letters if letter[0] >= base]
            wanted = Holding.of(kind, letters, gap=gap, base=base)
            for order in itertools.permutations(letters):
                holding = Holding.empty(kind, gap=gap, base=base)
                for letter in order:
                    holding = holding.put(*letter)
                self.assertEqual(holding, wanted)

    def test_letters_more_than_once(self):
        source = random.Random(251)
        for _ in range(300):
            letters = random_letters(source, most=9, full=False)
            letters = [letter for letter in letters if letter[0] >= 0]
            kind, gap = source.choice(KIND_NAMES), source.randint(0, 3)
            order = letters + (source.choices(letters, k=4) if letters else [])
            source.shuffle(order)
            holding = Holding.empty(kind, gap=gap)
            for letter in order:
                size, missing = holding.size, letter[0] not in holding
                after = holding.put(*letter)
                self.assertIs(after != holding, missing)
                self.assertLessEqual(after.size, size + 6)
                holding = after
            self.assertEqual(holding, Holding.of(kind, letters, gap=gap))

    def test_example(self):
        holding = Holding.of("tails", [(4, 7, 6), (0, 2, 5), (2, 4, 5)], gap=3)
        found = [holding.write(), holding.put(3, 5, 5).blocks, holding.missing(7), holding.room(1)]
        self.assertEqual(found, ["tails gap 3 base 0\n0 5 2 7 row 1:2 5 3:4 6", ((0, 5, 2, 7, ((1, 2), 5, 6)),),
                                 [(1, 2), (3, 4), (5, 7)], (2, 7)])


class TextTest(unittest.TestCase):

    TEXT = "list gap 3 base 2\n3 12 0 6 row 5 6 5:7 5 7 9:11 6\n20 21 40 40 row 5"

    def test_written(self):
        self.assertEqual(Holding.of("list", LETTERS, gap=3, base=2).write(), self.TEXT)
        self.assertEqual(Holding.empty("ends", gap=0, base=7).write(), "ends gap 0 base 7")
        self.assertEqual(Holding.of("ends", [(0, -4, -9)], gap=5).write(), "ends gap 5 base 0\n0 1 -4 -4 row -9 -9")

    def test_read_back(self):
        source = random.Random(30)
        for _ in range(100):
            letters = random_letters(source, full=False)
            gap, base = source.randint(0, 4), source.randint(0, 3)
            for kind in KIND_NAMES:
                holding = Holding.of(kind, letters, gap=gap, base=base)
                found = Holding.read(holding.write())
                self.assertEqual(parts(found), parts(holding))
                self.assertEqual(found.write(), holding.write())

    def test_the_row_is_a_tuple(self):
        block = Holding.read(self.TEXT).blocks[0]
        self.assertEqual(block, (3, 12, 0, 6, (5, 6, (5, 7), 5, 7, (9, 11), 6)))

    def test_texts_that_no_holding_has(self):
        head = "list gap 3 base 2"
        wrong_heads = ["", "\n", "lists gap 3 base 2", "list gap 3 base", "list gap 3", "list", "list gap 3 base 2 ",
                       " list gap 3 base 2", "list  gap 3 base 2", "list gap  3 base 2", "list gap 3 base 2 1", "list gap -1 base 2",
                       "list gap 3 base -2", "list gap x base 2", "list gap 3 base x", "list gap 03 base 2", "list gap 3 base +2",
                       "list gaps 3 base 2", "list gap 3 bases 2", "List gap 3 base 2", "list base 3 gap 2", "list gap 3 base 2:3",
                       "list gap -0 base 2", "list gap 3 base -0", " gap 3 base 2"]
        good = "3 12 0 6 row 5 6 5:7 5 7 9:11 6"
        wrong_lines = ["", " ", good + " ", " " + good, good.replace(" ", "  ", 1), good.replace("row", "rows"), good.replace("row ", ""),
                       "3 12 0 6 row", "3 12 0 6", "3 12 0", "row", "3 12 0 6 row ", good + " 7", good + " 9:11", good.replace("3", "+3", 1),
                       good.replace("3", "03", 1), good.replace("5:7", "5:7:8"), good.replace("5:7", "5:"), good.replace("5:7", ":7"),
                       good.replace("5:7", ":"), good.replace("5:7", "05:7"), good.replace("5:7", "5:+7"), good.replace("5:7", "5 : 7"),
                       good.replace("5:7", "5-7"), good.replace("5:7", "7:5"), good.replace("5:7", "5:5"), good.replace("5:7", "5:8"),
                       good.replace("3", "1", 1), good.replace("12", "13"), good.replace(" 6 ", " 60 ", 1), good.replace("0 6", "7 6"),
                       good.replace("5 6 5:7", "a 6 5:7"), good.replace("5 6 5:7", "5 06 5:7"), good.replace("3 12", "12 3"),
                       good.replace("0", "-0", 1), "x 12 0 6 row 5", "3 x 0 6 row 5", "3 4 x 6 row 5", "3 4 0 x row 5", "3 4 0 0 ro 5",
                       "3 4 0 0 row 5\n", good + "\n" + good, good + "\n\n20 21 40 40 row 5"]
        self.assertEqual(len(Holding.read(head + "\n" + good)), 1)
        for text in wrong_heads + [one + "\n" + good for one in wrong_heads] + [head + "\n" + line for line in wrong_lines] + [
                head + "\n", head + "\n" + good + "\n", "bag gap 3 base 0\n0 2 0 0 row 7 5", "set gap 3 base 0\n0 2 0 0 row 5 5",
                "set gap 3 base 0\n0 3 0 0 row 5 1:2 6", "first gap 3 base 0\n0 2 0 0 row 5 6", "first gap 3 base 0\n0 3 0 0 row 5 1:2",
                "ends gap 3 base 0\n0 1 0 0 row 5 6", "ends gap 3 base 0\n0 2 0 0 row 5", "heads gap 3 base 0\n0 3 0 0 row 1:2 5",
                "tails gap 3 base 0\n0 3 0 0 row 5 1:2", "heads gap 3 base 0\n0 2 0 0 row 5 5"]:
            with self.subTest(text):
                with self.assertRaises(BadText) as caught:
                    Holding.read(text)
                self.assertEqual(caught.exception.text, text)


if __name__ == "__main__":
    unittest.main()
