"""Gates: points 1, 2 and 11 to 14."""

import itertools
import unittest

from movedstates.errors import BadName, Finished
from movedstates.gates import Gate, fitting

NO_NAMES = ("", "A", "abcdefghi", "a b", None, 0, True, ("a",), ["a"])


def state(gate):
    """All that can be asked of a gate."""
    keys = ["a", "b", "c", "zz"]
    asked = [(gate.letters_of(key), gate.count_of(key), gate.mark_of(key)) for key in keys]
    lets = [gate.lets_in(key, time) for key in keys for time in range(-3, 15)]
    return [gate.floor, gate.finished, gate.known(), gate.late(), asked, lets]


class FittingTest(unittest.TestCase):

    def test_any_order(self):
        for letters in itertools.permutations([(0, 1, 5), (2, 1, 9), (3, 4, 1), (7, 8, 1)]):
            self.assertIs(fitting(list(letters)), True)

    def test_none_and_one(self):
        self.assertIs(fitting([]), True)
        self.assertIs(fitting([(5, 1, 2)]), True)

    def test_times_that_do_not_ascend(self):
        for letters in itertools.permutations([(0, 1, 5), (2, 4, 9), (3, 3, 1)]):
            self.assertIs(fitting(list(letters)), False)

    def test_one_number_twice(self):
        self.assertIs(fitting([(0, 1, 5), (0, 1, 6)]), False)
        self.assertIs(fitting([(0, 1, 5), (1, 2, 6), (0, 2, 5)]), False)

    def test_a_letter_twice(self):
        self.assertIs(fitting([(0, 1, 5), (0, 1, 5)]), False)

    def test_all_short_lists(self):
        letters = list(itertools.product((0, 1, 4), (-2, 0, 3), (5, 7)))
        for many in (2, 3):
            for at, chosen in enumerate(itertools.product(letters, repeat=many)):
                if many == 2 or at % 7 == 0:
                    pairs = [(one, other) for place, one in enumerate(chosen) for other in chosen[place + 1:]]
                    wanted = all((one[0] < other[0] and one[1] <= other[1]) or (one[0] > other[0] and one[1] >= other[1])
                                 for one, other in pairs)
                    self.assertIs(fitting(list(chosen)), wanted)

    def test_the_list_stays(self):
        letters = [(3, 4, 1), (0, 1, 5)]
        fitting(letters)
        self.assertEqual(letters, [(3, 4, 1), (0, 1, 5)])


class EventTest(unittest.TestCase):

    def test_at_first(self):
        gate = Gate()
        self.assertIsNone(gate.floor)
        self.assertIs(gate.finished, False)
        self.assertEqual([gate.known(), gate.late(), gate.letters_of("a"), gate.count_of("a")], [[], [], [], 0])
        self.assertIsNone(gate.mark_of("a"))

    def test_numbers_for_each_key(self):
        gate = Gate()
        self.assertEqual([gate.event("b", 5, 1), gate.event("a", 2, 7), gate.event("b", 5, 3), gate.event("b", 9, 3)],
                         [0, 0, 1, 2])
        self.assertEqual(gate.letters_of("b"), [(0, 5, 1), (1, 5, 3), (2, 9, 3)])
        self.assertEqual(gate.letters_of("a"), [(0, 2, 7)])
        self.assertEqual([gate.count_of("a"), gate.count_of("b"), gate.count_of("c")], [1, 3, 0])
        self.assertEqual(gate.known(), ["a", "b"])

    def test_late_events(self):
        gate = Gate()
        gate.event("a", 5, 1)
        gate.event("b", 7, 1)
        before = gate.letters_of("a")
        self.assertIsNone(gate.event("a", 4, 8))
        self.assertIsNone(gate.event("b", 6, 9))
        self.assertIsNone(gate.event("a", 4, 8))
        self.assertEqual(gate.late(), [("a", 4, 8), ("b", 6, 9), ("a", 4, 8)])
        self.assertEqual(gate.letters_of("a"), before)
        self.assertEqual(gate.event("a", 5, 2), 1)

    def test_the_last_letter_counts(self):
        gate = Gate()
        self.assertEqual([gate.event("a", time, 0) for time in (-5, 2, 9)], [0, 1, 2])
        self.assertEqual([gate.lets_in("a", time) for time in (-5, 2, 8, 9, 10)], [False, False, False, True, True])
        self.assertEqual([gate.event("a", 2, 0), gate.event("a", 8, 0), gate.event("a", 9, 0)], [None, None, 3])

    def test_below_the_floor_and_at_it(self):
        gate = Gate()
        gate.raise_floor(6)
        self.assertIsNone(gate.event("a", 5, 1))
        self.assertEqual(gate.known(), [])
        self.assertEqual(gate.event("a", 6, 1), 0)
        self.assertEqual(gate.late(), [("a", 5, 1)])

    def test_lets_in_ahead_of_each_event(self):
        gate = Gate()
        deeds = [("a", 5), ("a", 4), ("a", 5), 7, ("a", 6), ("b", 6), ("b", 7), ("a", 8), ("a", 7), 7, ("b", 7)]
        for deed in deeds:
            if isinstance(deed, int):
                gate.raise_floor(deed)
            else:
                let_in = gate.lets_in(*deed)
                self.assertIs(type(let_in), bool)
                self.assertIs(gate.event(*deed, 1) is not None, let_in)

    def test_lets_in_without_a_name(self):
        for thing in NO_NAMES:
            self.assertIs(Gate().lets_in(thing, 5), False)

    def test_bad_names(self):
        gate = Gate()
        gate.event("a", 1, 1)
        before = state(gate)
        for thing in NO_NAMES:
            for call in (lambda: gate.event(thing, 9, 1), lambda: gate.take(("event", thing, 9, 1)),
                         lambda: gate.event(thing, -9, 1)):
                with self.assertRaises(BadName) as caught:
                    call()
                self.assertIs(caught.exception.name, thing)
        self.assertEqual(state(gate), before)

    def test_returned_lists_are_new(self):
        gate = Gate()
        gate.event("a", 5, 1)
        gate.event("a", 4, 1)
        before = state(gate)
        gate.letters_of("a").append(1)
        gate.letters_of("b").append(1)
        gate.known().append("q")
        gate.late().clear()
        self.assertEqual(state(gate), before)


class RaiseTest(unittest.TestCase):

    def test_raises_that_change_the_floor_and_others(self):
        gate = Gate()
        self.assertEqual([gate.raise_floor(-5), gate.floor], [True, -5])
        self.assertEqual([gate.raise_floor(-5), gate.floor], [False, -5])
        self.assertEqual([gate.raise_floor(-6), gate.floor], [False, -5])
        self.assertEqual([gate.raise_floor(0), gate.floor], [True, 0])
        self.assertIs(gate.raise_floor(0), False)
        self.assertIs(gate.raise_floor(1), True)

    def test_properties(self):
        self.assertIsInstance(vars(Gate)["floor"], property)
        self.assertIsInstance(vars(Gate)["finished"], property)

    def test_methods_stand_in_the_class(self):
        for name in ("lets_in", "event", "raise_floor", "finish", "take", "letters_of", "count_of", "mark_of", "known",
                     "late", "twin"):
            self.assertIn(name, vars(Gate))


class TakeTest(unittest.TestCase):

    def test_each_deed(self):
        gate, other = Gate(), Gate()
        taken = [gate.take(("event", "a", 4, 9)), gate.take(("event", "a", 3, 9)), gate.take(("raise", 6)),
                 gate.take(("raise", 6)), gate.take(("yard", (0, 1))), gate.take(("event", "a", 6, 1)),
                 gate.take(("finish",))]
        done = [other.event("a", 4, 9), other.event("a", 3, 9), other.raise_floor(6), other.raise_floor(6), None,
                other.event("a", 6, 1), other.finish()]
        self.assertEqual(taken, [0, None, True, False, None, 1, None])
        self.assertEqual(taken, done)
        self.assertEqual(state(gate), state(other))

    def test_a_yard_changes_nothing(self):
        gate = Gate()
        gate.event("a", 4, 9)
        gate.raise_floor(5)
        before = state(gate)
        self.assertIsNone(gate.take(("yard", (0, 3))))
        self.assertEqual(state(gate), before)

    def test_behind_the_finish(self):
        gate = Gate()
        gate.event("a", 4, 9)
        gate.event("a", 3, 8)
        gate.raise_floor(3)
        self.assertIsNone(gate.finish())
        before = state(gate)
        self.assertEqual(before[:4], [3, True, ["a"], [("a", 3, 8)]])
        self.assertNotIn(True, before[5])
        calls = [lambda: gate.event("a", 9, 1), lambda: gate.event("A", 9, 1), lambda: gate.raise_floor(9),
                 lambda: gate.raise_floor(0), gate.finish, lambda: gate.take(("event", "a", 9, 1)),
                 lambda: gate.take(("event", None, 9, 1)), lambda: gate.take(("raise", 9)),
                 lambda: gate.take(("yard", (0,))), lambda: gate.take(("finish",))]
        for call in calls:
            with self.assertRaises(Finished):
                call()
        self.assertEqual(state(gate), before)


class MarkTest(unittest.TestCase):

    def test_without_a_floor(self):
        gate = Gate()
        gate.event("a", 1, 1)
        self.assertIsNone(gate.mark_of("a"))
        self.assertIsNone(gate.mark_of("b"))

    def test_with_a_floor(self):
        gate = Gate()
        gate.event("a", 1, 1)
        gate.raise_floor(3)
        self.assertEqual([gate.mark_of("a"), gate.mark_of("b")], [(1, 3), (0, 3)])
        gate.event("a", 4, 1)
        gate.event("b", 4, 1)
        self.assertEqual([gate.mark_of("a"), gate.mark_of("b")], [(1, 3), (0, 3)])

    def test_a_raise_that_changes_nothing_sets_no_mark(self):
        gate = Gate()
        gate.event("a", 1, 1)
        gate.raise_floor(3)
        gate.event("a", 4, 1)
        gate.raise_floor(3)
        gate.raise_floor(2)
        self.assertEqual(gate.mark_of("a"), (1, 3))
        gate.raise_floor(4)
        self.assertEqual(gate.mark_of("a"), (2, 4))

    def test_behind_the_finish(self):
        gate = Gate()
        gate.event("a", 1, 1)
        gate.raise_floor(3)
        gate.event("a", 4, 1)
        gate.finish()
        self.assertEqual([gate.mark_of("a"), gate.mark_of("b")], [(2, None), (0, None)])

    def test_finish_without_a_floor(self):
        gate = Gate()
        gate.event("a", 1, 1)
        gate.finish()
        self.assertEqual([gate.mark_of("a"), gate.mark_of("b"), gate.floor], [(1, None), (0, None), None])

    def test_example(self):
        gate = Gate()
        done = [gate.event("a", 4, 9), gate.event("a", 3, 9), gate.raise_floor(6), gate.event("a", 6, 1)]
        self.assertEqual(done + [gate.mark_of("a"), gate.mark_of("b")], [0, None, True, 1, (1, 6), (0, 6)])


class TwinTest(unittest.TestCase):

    def test_twins_go_their_own_ways(self):
        gate = Gate()
        gate.event("a", 4, 9)
        gate.event("a", 3, 9)
        gate.raise_floor(3)
        before = state(gate)
        twin = gate.twin()
        self.assertEqual(state(twin), before)
        twin.event("a", 5, 1)
        twin.event("b", 5, 1)
        twin.event("b", 1, 1)
        twin.raise_floor(7)
        twin.finish()
        self.assertEqual(state(gate), before)
        other = gate.twin()
        gate.event("a", 9, 1)
        gate.raise_floor(8)
        gate.event("a", 1, 1)
        self.assertEqual(state(other), before)
        gate.finish()
        self.assertTrue(gate.twin().finished)


if __name__ == "__main__":
    unittest.main()
