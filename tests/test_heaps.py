"""Heaps: points 49 and 50, with 14, 17 and 45."""

import itertools
import random
import unittest

from movedstates.errors import BadGap, BadKind, OtherHolding
from movedstates.heaps import Heap
from movedstates.holdings import Holding
from movedstates.kinds import KIND_NAMES, plain_value
from movedstates.sessions import cut_sessions, told_sessions
from movedstates.shuffles import free_orders
from tests.helpers import NOT_KINDS, random_letters, random_mark


def parts(heap):
    return [heap.kind, heap.gap, heap.number, heap.top, heap.blocks]


def heap_of(kind, letters, gap):
    heap = Heap.empty(kind, gap=gap)
    for letter in letters:
        heap = heap.put(*letter)
    return heap


class ByTheWords:
    """A heap, straight from point 49."""

    def __init__(self, kind, gap, number=0, top=0, blocks=()):
        self.kind, self.gap, self.number, self.top, self.blocks = kind, gap, number, top, list(blocks)

    def behind(self, other):
        visited = sorted([(block[0], False, block) for block in self.blocks] + [(block[0], True, block) for block in other.blocks],
                         key=lambda row: row[:2])
        clusters = []
        for row in visited:
            if not clusters or row[0] > max(one[2][1] for one in clusters[-1]) + self.gap:
                clusters.append([])
            clusters[-1].append(row)
        blocks = []
        for cluster in clusters:
            ordered = [row for row in cluster if not row[1]] + [row for row in cluster if row[1]]
            value = plain_value(self.kind, sum((row[2][2] for row in ordered), ()))
            blocks.append((min(row[0] for row in cluster), max(row[2][1] for row in cluster), value))
        return ByTheWords(self.kind, self.gap, self.number + other.number, max(self.top, other.top), blocks)

    def put(self, number, time, value):
        block = (time, time, plain_value(self.kind, (value,)))
        return self.behind(ByTheWords(self.kind, self.gap, 1, number + 1, [block]))

    def parts(self):
        return [self.kind, self.gap, self.number, self.top, tuple(self.blocks)]


def random_puts(source, most):
    return [(source.randint(0, 6), source.randint(0, 14), source.choice((5, 6, 7))) for _ in range(source.randint(0, most))]


class PutTest(unittest.TestCase):

    def test_empty(self):
        for kind in KIND_NAMES:
            heap = Heap.empty(kind, gap=4)
            self.assertEqual(parts(heap), [kind, 4, 0, 0, ()])
            self.assertEqual([heap.size, heap.whole], [2, True])

    def test_one_letter(self):
        for kind in KIND_NAMES:
            heap = Heap.empty(kind, gap=4).put(3, -2, 9)
            self.assertEqual(parts(heap), [kind, 4, 1, 4, ((-2, -2, (9, 9) if kind == "ends" else (9,)),)])
            self.assertIs(heap.whole, False)
            self.assertIs(Heap.empty(kind, gap=4).put(0, -2, 9).whole, True)

    def test_a_letter_that_comes_late(self):
        values = {"list": (5, 7, 6), "bag": (5, 6, 7), "set": (5, 6, 7), "first": (5,), "last": (6,), "ends": (5, 6),
                  "heads": (5, 7, 6), "tails": (5, 7, 6)}
        for kind in KIND_NAMES:
            heap = heap_of(kind, [(0, 0, 5), (2, 4, 7), (1, 2, 6)], 2)
            self.assertEqual(parts(heap), [kind, 2, 3, 3, ((0, 4, values[kind]),)])

    def test_a_cluster_of_several_blocks(self):
        for kind in KIND_NAMES:
            heap = heap_of(kind, [(0, 0, 5), (1, 4, 6), (2, 8, 5), (3, 20, 7)], 2)
            self.assertEqual(len(heap.blocks), 4)
            more = heap.put(4, 2, 8).put(5, 6, 9)
            self.assertEqual([block[:2] for block in more.blocks], [(0, 8), (20, 20)])
            self.assertEqual(more.blocks[0][2], plain_value(kind, (5, 6, 8, 5, 9)))
            self.assertEqual(len(heap.blocks), 4)

    def test_at_the_gap_and_above_it(self):
        for kind in KIND_NAMES:
            self.assertEqual(len(heap_of(kind, [(0, 0, 5), (1, 3, 5)], 3).blocks), 1)
            self.assertEqual(len(heap_of(kind, [(0, 0, 5), (1, 4, 5)], 3).blocks), 2)
            self.assertEqual(len(heap_of(kind, [(1, 3, 5), (0, 0, 5)], 3).blocks), 1)

    def test_a_letter_twice(self):
        heap = heap_of("list", [(0, 0, 5), (0, 0, 5), (2, 0, 6)], 1)
        self.assertEqual(parts(heap), ["list", 1, 3, 3, ((0, 0, (5, 5, 6)),)])
        self.assertIs(heap.whole, True)

    def test_against_the_words(self):
        source = random.Random(49)
        for _ in range(300):
            kind, gap = source.choice(KIND_NAMES), source.randint(0, 3)
            wanted, heap = ByTheWords(kind, gap), Heap.empty(kind, gap=gap)
            for letter in random_puts(source, 10):
                wanted, heap = wanted.put(*letter), heap.put(*letter)
                self.assertEqual(parts(heap), wanted.parts())
                self.assertEqual(heap.size, 2 + sum(2 + len(block[2]) for block in heap.blocks))
                self.assertIs(heap.whole, heap.number == heap.top)


class BehindTest(unittest.TestCase):

    def test_against_the_words(self):
        source = random.Random(491)
        for _ in range(400):
            gap = source.randint(0, 3)
            one_letters, other_letters = random_puts(source, 7), random_puts(source, 7)
            for kind in KIND_NAMES:
                one, other = heap_of(kind, one_letters, gap), heap_of(kind, other_letters, gap)
                kept = [parts(one), parts(other)]
                wanted = ByTheWords(kind, *parts(one)[1:]).behind(ByTheWords(kind, *parts(other)[1:]))
                self.assertEqual(parts(one + other), wanted.parts())
                self.assertEqual([parts(one), parts(other)], kept)

    def test_equal_firsts(self):
        for kind in KIND_NAMES:
            one, other = heap_of(kind, [(0, 3, 5)], 1), heap_of(kind, [(1, 3, 6), (2, 4, 7)], 1)
            self.assertEqual((one + other).blocks, ((3, 4, plain_value(kind, (5, 6, 7))),))
            self.assertEqual((other + one).blocks, ((3, 4, plain_value(kind, (6, 7, 5))),))

    def test_blocks_of_the_first_one_come_first_in_a_cluster(self):
        one, other = heap_of("list", [(1, 2, 6), (3, 6, 8)], 2), heap_of("list", [(0, 0, 5), (2, 4, 7)], 2)
        self.assertEqual((one + other).blocks, ((0, 6, (6, 8, 5, 7)),))
        self.assertEqual((other + one).blocks, ((0, 6, (5, 7, 6, 8)),))

    def test_a_block_within_another(self):
        one, other = heap_of("list", [(0, 0, 5), (1, 3, 6), (2, 6, 7)], 3), heap_of("list", [(3, 2, 8), (4, 9, 9)], 3)
        self.assertEqual((one + other).blocks, ((0, 9, (5, 6, 7, 8, 9)),))

    def test_the_empty_heap(self):
        for kind in KIND_NAMES:
            heap, empty = heap_of(kind, [(0, 0, 5), (3, 9, 6)], 2), Heap.empty(kind, gap=2)
            self.assertEqual([parts(heap + empty), parts(empty + heap)], [parts(heap), parts(heap)])
            self.assertEqual(parts(empty + empty), parts(empty))

    def test_number_and_top(self):
        one, other = heap_of("set", [(0, 0, 5), (7, 1, 6)], 2), heap_of("set", [(4, 0, 5)], 2)
        self.assertEqual([[both.number, both.top] for both in (one + other, other + one, other + other)], [[3, 8], [3, 8], [2, 5]])

    def test_bags_and_sets_in_any_order_and_grouping(self):
        source = random.Random(50)
        for _ in range(200):
            for kind in ("bag", "set"):
                gap = source.randint(0, 3)
                one, other, last = [heap_of(kind, random_puts(source, 4), gap) for _ in range(3)]
                wanted = one + other + last
                self.assertEqual(one + (other + last), wanted)
                for order in itertools.permutations((one, other, last)):
                    self.assertEqual(order[0] + order[1] + order[2], wanted)

    def test_other_heaps(self):
        for kind in KIND_NAMES:
            heap = Heap.empty(kind, gap=3)
            others = [Heap.empty(kind, gap=gap) for gap in (2, 4)] + [Heap.empty(other, gap=3) for other in KIND_NAMES if other != kind]
            for other in others:
                with self.assertRaises(OtherHolding):
                    heap + other
                with self.assertRaises(OtherHolding):
                    other + heap


class EqualTest(unittest.TestCase):

    def test_equality(self):
        heap = heap_of("list", [(0, 0, 5), (1, 1, 6)], 2)
        self.assertIs(heap == heap_of("list", [(0, 0, 5), (1, 1, 6)], 2), True)
        self.assertIs(heap != heap_of("list", [(0, 0, 5), (1, 1, 6)], 2), False)
        others = [heap_of("heads", [(0, 0, 5), (1, 1, 6)], 2), heap_of("list", [(0, 0, 5), (1, 1, 6)], 3),
                  heap_of("list", [(0, 0, 5), (2, 1, 6)], 2), heap_of("list", [(0, 0, 5), (1, 1, 7)], 2), Heap.empty("list", gap=2)]
        for other in others:
            self.assertIs(heap == other, False)
            self.assertIs(heap != other, True)
        one, other = heap_of("set", [(0, 0, 5), (1, 0, 5)], 2), heap_of("set", [(1, 0, 5), (1, 0, 5), (1, 0, 5)], 2)
        self.assertEqual([one.top, one.blocks], [other.top, other.blocks])
        self.assertIs(one == other, False)
        for thing in (None, 0, heap.blocks, Holding.empty("list", gap=2), object()):
            self.assertIs(heap == thing, False)


class TellTest(unittest.TestCase):

    def test_each_form_of_mark(self):
        for kind in KIND_NAMES:
            heap = heap_of(kind, [(0, 0, 5), (1, 2, 6), (2, 9, 5)], 3)
            self.assertEqual([len(heap.blocks), heap.whole], [2, True])
            for mark, many in ((None, 1), ((3, 12), 1), ((3, 13), 2), ((0, 13), 2), ((4, 13), 1), ((3, None), 2), ((4, None), 1),
                               ((0, None), 2), ((0, 0), 1)):
                told, left = heap.tell(mark)
                self.assertIs(type(told), list)
                self.assertEqual(told, list(heap.blocks[:many]))
                self.assertEqual(parts(left), [kind, 3, 3, 3, heap.blocks[many:]])

    def test_not_whole(self):
        for kind in KIND_NAMES:
            for letters in ([(0, 0, 5), (2, 9, 5)], [(0, 0, 5), (1, 9, 5), (0, 0, 5)]):
                heap = heap_of(kind, letters, 3)
                for mark in (None, (0, 99), (0, None), (3, None)):
                    told, left = heap.tell(mark)
                    self.assertEqual([told, left], [[], heap])

    def test_no_blocks(self):
        for kind in KIND_NAMES:
            heap = Heap.empty(kind, gap=3)
            for mark in (None, (0, 99), (0, None)):
                self.assertEqual(heap.tell(mark), ([], heap))

    def test_telling_twice(self):
        heap = heap_of("list", [(0, 0, 5), (1, 9, 6)], 3)
        told, left = heap.tell((2, None))
        self.assertEqual([told, left.blocks, left.number, left.top, left.size], [[(0, 0, (5,)), (9, 9, (6,))], (), 2, 2, 2])
        told.append(1)
        self.assertEqual(left.tell((2, None)), ([], left))
        again = left.put(2, 30, 7)
        self.assertEqual(again.tell((3, None))[0], [(30, 30, (7,))])

    def test_letters_in_order_give_the_sessions(self):
        source = random.Random(501)
        for _ in range(300):
            letters, gap = random_letters(source, most=9), source.randint(0, 3)
            mark = random_mark(source, letters)
            for kind in KIND_NAMES:
                heap = heap_of(kind, letters, gap)
                sessions = cut_sessions(kind, letters, gap=gap)
                wanted = tuple(session[2:] for session in sessions)
                self.assertEqual(parts(heap), [kind, gap, len(letters), len(letters), wanted])
                self.assertIs(heap.whole, True)
                told = told_sessions(kind, letters, mark, gap=gap)
                self.assertEqual(heap.tell(mark)[0], [session[2:] for session in told])

    def test_whole_without_repeats(self):
        source = random.Random(502)
        for _ in range(200):
            letters = random_letters(source)
            some = [letter for letter in letters if source.random() < 0.7]
            source.shuffle(some)
            heap = heap_of("bag", some, 2)
            self.assertIs(heap.whole, sorted(letter[0] for letter in some) == list(range(heap.top)))

    def test_orders_of_letters_within_one_gap(self):
        for kind in KIND_NAMES:
            for values in itertools.product((1, 2, 3), repeat=3):
                letters = [(at, at, value) for at, value in enumerate(values)]
                heaps = [heap_of(kind, order, 2) for order in itertools.permutations(letters)]
                self.assertTrue(all(len(heap.blocks) == 1 for heap in heaps))
                session = cut_sessions(kind, letters, gap=2)[0]
                free = all(heap.blocks == (session[2:],) for heap in heaps)
                self.assertIs(free, free_orders(kind, [(value,) for value in values]) is None)

    def test_example(self):
        heap = Heap.empty("bag", gap=5).put(1, 14, 8).put(0, 10, 9)
        both = heap + Heap.empty("bag", gap=5).put(2, 30, 7)
        told, left = both.tell((3, 35))
        found = [both.number, both.top, both.blocks, both.whole, both.size, told, left.blocks, left.number]
        self.assertEqual(found, [3, 3, ((10, 14, (8, 9)), (30, 30, (7,))), True, 9, [(10, 14, (8, 9))], ((30, 30, (7,)),), 3])


class FormTest(unittest.TestCase):

    def test_methods_stand_in_the_class(self):
        for name in ("empty", "put", "tell", "__add__", "__eq__", "top", "size", "whole"):
            self.assertIn(name, vars(Heap))

    def test_bad_kind_and_then_bad_gap(self):
        for thing in NOT_KINDS:
            with self.assertRaises(BadKind) as caught:
                Heap.empty(thing, gap=-1)
            self.assertIs(caught.exception.name, thing)
        for kind in KIND_NAMES:
            with self.assertRaises(BadGap) as caught:
                Heap.empty(kind, gap=-3)
            self.assertEqual(caught.exception.gap, -3)

    def test_200_letters(self):
        letters = [(at, at // 3 * 4, at) for at in range(200)]
        heap = heap_of("list", letters, 1)
        self.assertEqual([len(heap.blocks), heap.number, heap.blocks[-1]], [67, 200, (264, 264, (198, 199))])


if __name__ == "__main__":
    unittest.main()
