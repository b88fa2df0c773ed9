"""Repeats and losses: points 46 to 48, with 41 and 43."""

import itertools
import random
import unittest

from movedstates.errors import BadKind
from movedstates.kinds import KIND_NAMES, alike, plain_value
from movedstates.repeats import free_loss, free_repeat
from tests.helpers import NOT_KINDS
from tests.test_shuffles import new, random_around, random_parcels, word

IDEMPOTENT = [kind for kind in KIND_NAMES if kind not in ("list", "bag")]


def begins(one, other):
    """Whether one is a beginning of the other word (point 43)."""
    return other[:len(one)] == one


def ends(one, other):
    return begins(one[::-1], other[::-1])


def repeat_is_free(kind, parcels, i, j, before, after):
    """The cases of point 46."""
    last = j < len(parcels) - 1 or bool(after) or parcels[i][-1] == parcels[j][-1]
    y, z = word(before, parcels[:j + 1], ()), word((), parcels[j + 1:], after)
    tails = ends(new("tails", parcels[i], z), new("tails", y, z))
    cases = {"list": False, "bag": False, "set": True, "first": True, "heads": True, "last": last, "ends": last, "tails": tails}
    return cases[kind]


def loss_is_free(kind, parcels, i, before, after):
    """The cases of point 47."""
    w, y, z = parcels[i], word(before, parcels[:i], ()), word((), parcels[i + 1:], after)
    first, last = bool(y) or z[:1] == w[:1], bool(z) or y[-1:] == w[-1:]
    cases = {"list": False, "bag": False, "set": all(value in y + z for value in w), "first": first, "last": last,
             "ends": bool(y + z) and first and last, "heads": begins(new("heads", w, y), new("heads", z, y)),
             "tails": ends(new("tails", w, z), new("tails", y, z))}
    return cases[kind]


class RepeatTest(unittest.TestCase):

    def check(self, kind, parcels, before, after):
        free = 0
        for j in range(len(parcels)):
            for i in range(j + 1):
                kept = list(parcels)
                found = free_repeat(kind, parcels, i, j, before=before, after=after)
                self.assertIs(type(found), bool)
                repeated = parcels[:j + 1] + [parcels[i]] + parcels[j + 1:]
                plain = [plain_value(kind, word(before, one, after)) for one in (repeated, parcels)]
                self.assertIs(found, plain[0] == plain[1])
                self.assertIs(found, repeat_is_free(kind, parcels, i, j, before, after))
                self.assertEqual(parcels, kept)
                free += found
        return free

    def test_at_each_place(self):
        source = random.Random(46)
        for kind in KIND_NAMES:
            free = 0
            for _ in range(300):
                values = source.choice(((1,), (1, 2), (1, 2, 3)))
                parcels = random_parcels(source, 5, values)
                free += self.check(kind, parcels, random_around(source, values), random_around(source, values))
            self.assertEqual(free > 0, kind in IDEMPOTENT)

    def test_words_around(self):
        for kind, found in (("last", False), ("ends", False), ("tails", False), ("first", True), ("heads", True), ("set", True)):
            self.assertIs(free_repeat(kind, [(1,), (2,)], 0, 1), found)
            self.assertIs(free_repeat(kind, [(1,), (2,)], 0, 1, before=(3,)), found)
            self.assertIs(free_repeat(kind, [(1,), (2,)], 0, 1, after=(1,)), True)
            self.assertIs(free_repeat(kind, [(1,), (2,)], 0, 1, after=(3,)), found or kind != "tails")

    def test_for_all_parcels_at_once(self):
        # With i = j nothing changes under the idempotent kinds, at any place under set, first and heads.
        for kind in KIND_NAMES:
            self.assertIs(free_repeat(kind, [(1, 2)], 0, 0), kind in IDEMPOTENT)
            self.assertIs(free_repeat(kind, [(1,), (2,)], 0, 1), kind in ("set", "first", "heads"))


class LossTest(unittest.TestCase):

    def check(self, kind, parcels, before, after):
        free = 0
        for i in range(len(parcels)):
            kept = list(parcels)
            found = free_loss(kind, parcels, i, before=before, after=after)
            self.assertIs(type(found), bool)
            left = parcels[:i] + parcels[i + 1:]
            self.assertIs(found, alike(kind, word(before, left, after), word(before, parcels, after)))
            self.assertIs(found, loss_is_free(kind, parcels, i, before, after))
            self.assertEqual(parcels, kept)
            free += found
        return free

    def test_at_each_place(self):
        source = random.Random(47)
        for kind in KIND_NAMES:
            free = lost = 0
            for _ in range(300):
                values = source.choice(((1,), (1, 2), (1, 2, 3)))
                parcels = random_parcels(source, 5, values)
                found = self.check(kind, parcels, random_around(source, values), random_around(source, values))
                free, lost = free + found, lost + len(parcels) - found
            self.assertEqual(free > 0, kind in IDEMPOTENT)
            self.assertGreater(lost, 0)

    def test_the_only_parcel(self):
        for kind in KIND_NAMES:
            self.assertIs(free_loss(kind, [(1,)], 0), False)
            self.assertIs(free_loss(kind, [(1,)], 0, before=(1,)), kind in IDEMPOTENT)
            self.assertIs(free_loss(kind, [(1,)], 0, after=(1,)), kind in IDEMPOTENT)

    def test_words_around(self):
        found = {kind: [free_loss(kind, [(1,), (2,)], 0, before=before, after=after)
                        for before, after in itertools.product([(), (1,), (3,)], repeat=2)] for kind in IDEMPOTENT}
        wanted = {"set": [False, True, False, True, True, True, False, True, False], "first": [False] * 3 + [True] * 6,
                  "last": [True] * 9, "ends": [False] * 3 + [True] * 6, "heads": [False] * 3 + [True] * 3 + [False] * 3,
                  "tails": [False, True, False, True, True, True, False, True, False]}
        self.assertEqual(found, wanted)


class ErrorsTest(unittest.TestCase):

    def test_bad_kind(self):
        for thing in NOT_KINDS:
            for ask in (lambda: free_repeat(thing, [(1,)], 0, 0), lambda: free_loss(thing, [(1,)], 0)):
                with self.assertRaises(BadKind) as caught:
                    ask()
                self.assertIs(caught.exception.name, thing)


if __name__ == "__main__":
    unittest.main()
