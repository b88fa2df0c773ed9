"""Witnesses: point 10, with 1, 2 and 6."""

import random
import unittest

from movedstates.errors import BadKind, EmptyWord
from movedstates.kinds import KIND_NAMES, alike
from movedstates.tables import Table
from movedstates.witnesses import witness
from tests.helpers import NOT_KINDS, words_up_to


def most_elements(kind, left, right):
    """The promised size of the table of a witness."""
    if kind in ("set", "first", "last", "ends"):
        return 2
    if kind in ("heads", "tails"):
        return 3
    if kind == "bag":
        return 1 + max(word.count(value) for word in (left, right) for value in word)
    shorter = min(len(left), len(right))
    return shorter * (shorter + 1) // 2 + 1


class WitnessTest(unittest.TestCase):

    def check(self, kind, left, right):
        found = witness(kind, left, right)
        if alike(kind, left, right):
            self.assertIsNone(found)
            return
        self.assertIs(type(found), tuple)
        table, reading = found
        self.assertIs(type(table), Table)
        self.assertIs(type(reading), list)
        self.assertIsNone(table.fault(kind))
        self.assertLessEqual(table.size, most_elements(kind, left, right))
        self.assertEqual([value for value, _ in reading], sorted(set(left) | set(right)))
        self.assertTrue(all(type(pair) is tuple and 0 <= pair[1] < table.size for pair in reading))
        read = dict(reading)
        self.assertNotEqual(table.fold([read[value] for value in left]), table.fold([read[value] for value in right]))

    def test_all_short_words(self):
        words = [word for word in words_up_to(3, (1, 2, 3)) if word]
        for kind in KIND_NAMES:
            for left in words:
                for right in words:
                    self.check(kind, left, right)

    def test_longer_words(self):
        source = random.Random(10)
        for _ in range(300):
            left = tuple(source.choices((-4, 0, 2, 9), k=source.randint(1, 12)))
            right = tuple(source.choices((-4, 0, 2, 9), k=source.randint(1, 12)))
            for kind in KIND_NAMES:
                self.check(kind, left, right)
                shuffled = list(left)
                source.shuffle(shuffled)
                self.check(kind, left, tuple(shuffled))

    def test_greatest_words(self):
        left, right = tuple(range(12)), tuple(range(11)) + (12,)
        for kind in KIND_NAMES:
            self.check(kind, left, right)
            self.check(kind, left, left[::-1])
            self.check(kind, (5,) * 11, (5,) * 12)

    def test_lists_are_words_and_stay(self):
        for kind in KIND_NAMES:
            left, right = [1, 2, 2], [2, 1, 3]
            self.check(kind, left, right)
            self.check(kind, left, (2, 1, 3))
            self.assertEqual([left, right], [[1, 2, 2], [2, 1, 3]])

    def test_empty_words(self):
        for kind in KIND_NAMES:
            for left, right in (((), ()), ((1,), ()), ((), (1,)), ([], [])):
                with self.assertRaises(EmptyWord):
                    witness(kind, left, right)

    def test_bad_kind_comes_first(self):
        for thing in NOT_KINDS:
            with self.assertRaises(BadKind) as caught:
                witness(thing, (), ())
            self.assertIs(caught.exception.name, thing)


if __name__ == "__main__":
    unittest.main()
