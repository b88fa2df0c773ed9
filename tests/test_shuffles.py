"""Shuffles and orders: points 41 to 45, and 48."""

import itertools
import random
import unittest

from movedstates.errors import BadKind
from movedstates.kinds import KIND_NAMES, alike, plain_value
from movedstates.shuffles import free_orders, free_shuffles, shuffles
from tests.helpers import NOT_KINDS, words_up_to


def word(before, parcels, after):
    """The word of a list of parcels (point 41)."""
    return before + sum(parcels, ()) + after


def shuffles_by_the_words(u, v):
    """All shuffles, by the choices of the places of the parcels of u, in their order (point 42)."""
    found = []
    for places in itertools.combinations(range(len(u) + len(v)), len(u)):
        first, second = iter(u), iter(v)
        found.append([next(first) if at in places else next(second) for at in range(len(u) + len(v))])
    return found


def new(kind, one, other):
    """new and rear (point 43)."""
    return tuple(value for value in plain_value(kind, one) if value not in other)


def is_beginning(one, other):
    return other[:len(one)] == one or one[:len(other)] == other


def is_end(one, other):
    return is_beginning(one[::-1], other[::-1])


def shuffles_are_free(kind, u, v, before, after):
    """The cases of point 44."""
    one, other = word((), u, ()), word((), v, ())
    first, last = bool(before) or one[0] == other[0], bool(after) or one[-1] == other[-1]
    if kind == "list":
        return all(left + right == right + left for left in u for right in v)
    cases = {"bag": True, "set": True, "first": first, "last": last, "ends": first and last,
             "heads": is_beginning(new("heads", one, before), new("heads", other, before)),
             "tails": is_end(new("tails", one, after), new("tails", other, after))}
    return cases[kind]


def orders_are_free(kind, parcels, before, after):
    """The cases of point 45."""
    first = bool(before) or len({parcel[0] for parcel in parcels}) == 1
    last = bool(after) or len({parcel[-1] for parcel in parcels}) == 1
    pairs = list(itertools.combinations(parcels, 2))
    cases = {"bag": True, "set": True, "list": all(one + other == other + one for one, other in pairs),
             "first": first, "last": last, "ends": first and last,
             "heads": all(is_beginning(new("heads", one, before), new("heads", other, before)) for one, other in pairs),
             "tails": all(is_end(new("tails", one, after), new("tails", other, after)) for one, other in pairs)}
    return cases[kind]


def random_parcels(source, most, values):
    return [tuple(source.choice(values) for _ in range(source.randint(1, 3))) for _ in range(source.randint(1, most))]


def random_around(source, values):
    return tuple(source.choice(values) for _ in range(source.choice((0, 0, 1, 2))))


class ShufflesTest(unittest.TestCase):

    def test_the_order(self):
        found = list(shuffles([(1,), (2,)], [(3,), (4,)]))
        orders = [(1, 2, 3, 4), (1, 3, 2, 4), (1, 3, 4, 2), (3, 1, 2, 4), (3, 1, 4, 2), (3, 4, 1, 2)]
        self.assertEqual(found, [[(value,) for value in order] for order in orders])

    def test_equal_lists(self):
        self.assertEqual(list(shuffles([(1,)], [(1,)])), [[(1,), (1,)]] * 2)
        self.assertEqual(list(shuffles([(1,), (1,)], [(1,)])), [[(1,), (1,), (1,)]] * 3)
        self.assertEqual(list(shuffles([(1,)], [(2,), (1,)])), [[(1,), (2,), (1,)], [(2,), (1,), (1,)], [(2,), (1,), (1,)]])

    def test_all_choices(self):
        source = random.Random(42)
        for _ in range(60):
            u, v = random_parcels(source, 4, (1, 2)), random_parcels(source, 4, (1, 2))
            kept = [list(u), list(v)]
            self.assertEqual(list(shuffles(u, v)), shuffles_by_the_words(u, v))
            self.assertEqual([u, v], kept)

    def test_twelve_parcels(self):
        parcels = [(at,) for at in range(12)]
        self.assertEqual(list(shuffles(parcels[:6], parcels[6:])), shuffles_by_the_words(parcels[:6], parcels[6:]))
        self.assertEqual(len(list(shuffles(parcels[:1], parcels[1:]))), 12)

    def test_a_list_that_is_changed_behind_its_yield(self):
        u, v = [(1,), (2,)], [(3,), (4,)]
        wanted = shuffles_by_the_words(u, v)
        for at, found in enumerate(shuffles(u, v)):
            self.assertEqual(found, wanted[at])
            found.reverse()
            found.clear()
        self.assertEqual([at, u, v], [5, [(1,), (2,)], [(3,), (4,)]])

    def test_it_is_a_generator(self):
        steps = shuffles([(1,)], [(2,)])
        self.assertIs(iter(steps), steps)
        self.assertEqual([next(steps), next(steps), next(steps, None)], [[(1,), (2,)], [(2,), (1,)], None])


class FreeShufflesTest(unittest.TestCase):

    def check(self, kind, u, v, before, after):
        kept = [list(u), list(v)]
        found = free_shuffles(kind, u, v, before=before, after=after)
        values = {plain_value(kind, word(before, one, after)) for one in shuffles_by_the_words(u, v)}
        self.assertIs(found is None, len(values) == 1)
        self.assertIs(found is None, shuffles_are_free(kind, u, v, before, after))
        self.assertEqual([u, v], kept)
        if found is None:
            return 0
        self.assertFalse(alike(kind, *found))
        if kind != "list":
            self.assertEqual(found, (word(before, u + v, after), word(before, v + u, after)))
            return 1
        i, j = min((i, j) for i in range(len(u)) for j in range(len(v)) if u[i] + v[j] != v[j] + u[i])
        ahead, behind = u[:i] + v[:j], u[i + 1:] + v[j + 1:]
        pairs = ([u[i], v[j]], [v[j], u[i]])
        self.assertEqual(found, tuple(word(before, ahead + pair + behind, after) for pair in pairs))
        return 1

    def test_all_short_parcels(self):
        parcels = [parcel for parcel in words_up_to(2, (1, 2)) if parcel]
        for kind in KIND_NAMES:
            for one, other in itertools.product(parcels, repeat=2):
                for before, after in itertools.product([(), (1,), (2,), (3,)], repeat=2):
                    self.check(kind, [one], [other], before, after)

    def test_against_all_shuffles(self):
        source = random.Random(44)
        for kind in KIND_NAMES:
            many = 0
            for _ in range(400):
                values = source.choice(((1,), (1, 2), (1, 2, 3)))
                u, v = random_parcels(source, 3, values), random_parcels(source, 3, values)
                many += self.check(kind, u, v, random_around(source, values), random_around(source, values))
            self.assertEqual(many > 0, kind not in ("bag", "set"))

    def test_for_list_the_two_lists_one_behind_the_other_are_not_enough(self):
        parcels = [(1,), (2,)]
        self.assertEqual(free_shuffles("list", parcels, parcels), ((1, 1, 2, 2), (1, 2, 1, 2)))
        self.check("list", parcels, parcels, (), ())
        self.check("list", [(1, 1)], [(1,), (1, 1, 1)], (2,), ())

    def test_words_around(self):
        self.assertEqual(free_shuffles("list", [(1,)], [(2,)], before=(8,), after=(9,)), ((8, 1, 2, 9), (8, 2, 1, 9)))
        self.assertIsNone(free_shuffles("first", [(1,)], [(2,)], before=(8,)))
        self.assertEqual(free_shuffles("first", [(1,)], [(2,)], after=(8,)), ((1, 2, 8), (2, 1, 8)))
        self.assertIsNone(free_shuffles("last", [(1,)], [(2,)], after=(8,)))
        self.assertEqual(free_shuffles("ends", [(1,)], [(2,)], after=(8,)), ((1, 2, 8), (2, 1, 8)))
        self.assertIsNone(free_shuffles("ends", [(1,)], [(2,)], before=(7,), after=(8,)))
        self.assertIsNone(free_shuffles("heads", [(1,)], [(2,)], before=(2,)))
        self.assertIsNone(free_shuffles("tails", [(1,)], [(2,)], after=(2,)))

    def test_example(self):
        u, v = [(1,), (2, 1)], [(1, 2)]
        found = [free_shuffles("heads", u, v), free_shuffles("list", u, v), free_orders("last", [(1,), (2,), (3, 2)])]
        self.assertEqual(found, [None, ((1, 1, 2, 2, 1), (1, 2, 1, 2, 1)), ((3, 2, 1, 2), (3, 2, 2, 1))])

    def test_for_all_parcels_at_once(self):
        free = [kind for kind in KIND_NAMES if free_shuffles(kind, [(1,)], [(2,)]) is None]
        self.assertEqual(free, ["bag", "set"])


class FreeOrdersTest(unittest.TestCase):

    def check(self, kind, parcels, before, after):
        kept = list(parcels)
        found = free_orders(kind, parcels, before=before, after=after)
        words = [word(before, list(order), after) for order in itertools.permutations(parcels)]
        self.assertIs(found is None, len({plain_value(kind, one) for one in words}) == 1)
        if len(parcels) > 1:
            self.assertIs(found is None, orders_are_free(kind, parcels, before, after))
        self.assertEqual(parcels, kept)
        self.assertEqual(found, self.wanted(kind, parcels, before, after))
        return 0 if found is None else 1

    def wanted(self, kind, parcels, before, after):
        """The two words that the interface tells."""
        pairs = list(itertools.combinations(range(len(parcels)), 2))
        for ahead in (True, False):
            for i, j in pairs:
                rest = [parcel for at, parcel in enumerate(parcels) if at not in (i, j)]
                swapped = [[parcels[i], parcels[j]], [parcels[j], parcels[i]]]
                words = tuple(word(before, pair + rest if ahead else rest + pair, after) for pair in swapped)
                if not alike(kind, *words):
                    return words
        return None

    def test_one_parcel(self):
        for kind in KIND_NAMES:
            self.assertIsNone(free_orders(kind, [(1, 2)], before=(3,)))

    def test_two_parcels(self):
        parcels = [parcel for parcel in words_up_to(2, (1, 2)) if parcel]
        for kind in KIND_NAMES:
            for one, other in itertools.product(parcels, repeat=2):
                for before, after in itertools.product([(), (1,), (2,)], repeat=2):
                    self.check(kind, [one, other], before, after)

    def test_against_all_orders(self):
        source = random.Random(45)
        for kind in KIND_NAMES:
            many = 0
            for _ in range(300):
                values = source.choice(((1,), (1, 2), (1, 2, 3)))
                parcels = random_parcels(source, 5, values)
                many += self.check(kind, parcels, random_around(source, values), random_around(source, values))
            self.assertEqual(many > 0, kind not in ("bag", "set"))

    def test_behind_the_rest(self):
        self.assertEqual(free_orders("last", [(1,), (2,), (3,)]), ((3, 1, 2), (3, 2, 1)))
        self.assertEqual(free_orders("tails", [(1,), (2,), (1, 2)]), ((1, 2, 1, 2), (1, 2, 2, 1)))
        self.assertEqual(free_orders("ends", [(1, 1), (1, 2), (1, 1)], before=(3,)), ((3, 1, 1, 1, 1, 1, 2), (3, 1, 1, 1, 2, 1, 1)))
        self.assertEqual(free_orders("first", [(1,), (2,), (3,)], after=(9,)), ((1, 2, 3, 9), (2, 1, 3, 9)))

    def test_the_least_pair(self):
        self.assertEqual(free_orders("list", [(1,), (1, 1), (2,), (3,)]), ((1, 2, 1, 1, 3), (2, 1, 1, 1, 3)))
        self.assertEqual(free_orders("heads", [(1,), (1, 2), (1, 3)]), ((1, 2, 1, 3, 1), (1, 3, 1, 2, 1)))

    def test_many_parcels(self):
        parcels = [(1,) * (at % 4 + 1) for at in range(60)]
        for kind in KIND_NAMES:
            self.assertIsNone(free_orders(kind, parcels, before=(2,), after=(3,)))
        found = free_orders("list", parcels + [(2,)])
        self.assertEqual(found, ((1, 2) + word((), parcels[1:], ()), (2, 1) + word((), parcels[1:], ())))


class ErrorsTest(unittest.TestCase):

    def test_bad_kind(self):
        for thing in NOT_KINDS:
            for ask in (lambda: free_shuffles(thing, [(1,)], [(2,)]), lambda: free_orders(thing, [(1,)])):
                with self.assertRaises(BadKind) as caught:
                    ask()
                self.assertIs(caught.exception.name, thing)


if __name__ == "__main__":
    unittest.main()
