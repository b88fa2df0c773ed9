"""Workers with "count": points 61, 64 and 65, with 49 and 50."""

import itertools
import random
import unittest

from movedstates.counters import Counter
from movedstates.errors import BadGap, BadKind, BadSheet, BadYard, UnknownName
from movedstates.heaps import Heap
from movedstates.kinds import KIND_NAMES
from movedstates.messages import Message
from movedstates.placers import Placer
from tests.helpers import NOT_KINDS
from tests.owners import bad_yards
from tests.workers import CREW, RandomMessages, WorkerByTheWords, heap_of, outcome_parts, routing_of, state

# By (0,) all keys are held by worker 0, by (0, 1) a and c by worker 1.
ROUTING = routing_of({"a": [1, 0, 2], "b": [0, 1, 2], "c": (1, 0, 2)})
SHEETS = list(itertools.product(("count",), ("forward", "drop"), (False, True)))
NOTHING = [[], [], [], []]


def counter(kind="list", *, worker=0, gap=2, yard=(0,), letters="forward", keeps=False):
    return Counter(worker, kind, ROUTING, gap=gap, yard=yard, sheet=("count", letters, keeps))


def letter(key, number, time, value=5):
    return "letter", key, number, time, value


def send(worker, body, *, number=0, yard=(0,), hops=0):
    """The parts of the outcome of a message with this body."""
    outcome = worker.receive(Message(worker.worker, number, yard, body, hops=hops))
    return outcome_parts(outcome)


def heap(letters, kind="list"):
    return heap_of(kind, letters, gap=2)


class MadeTest(unittest.TestCase):

    def test_at_first(self):
        worker = Counter(2, "bag", ROUTING, gap=7, yard=(0, 2))
        self.assertIsInstance(worker, Placer)
        self.assertEqual(state(worker), [0, (0, 2), None, {}, {}])
        self.assertEqual([worker.worker, worker.kind, worker.gap, worker.sheet], [2, "bag", 7, ("count", "forward", False)])
        self.assertIs(worker.routing, ROUTING)
        self.assertEqual(Counter.JOINS, "count")
        for sheet in SHEETS:
            self.assertEqual(Counter(0, "list", ROUTING, gap=0, yard=(0,), sheet=sheet).sheet, sheet)

    def test_is_holder(self):
        self.assertEqual([counter(yard=(0, 1)).is_holder(key) for key in "abc"], [False, True, False])
        self.assertIs(counter(worker=1, yard=(0, 1)).is_holder("a"), True)
        with self.assertRaises(UnknownName) as caught:
            counter().is_holder("d")
        self.assertEqual(caught.exception.name, "d")

    def test_errors_in_their_order(self):
        sheets = [("place", "forward", False), ("count", "forward", 0), ("count", "forward"), ["count", "forward", False], None]
        for thing in NOT_KINDS:
            with self.assertRaises(BadKind) as caught:
                Counter(0, thing, ROUTING, gap=-1, yard=(), sheet=sheets[0])
            self.assertIs(caught.exception.name, thing)
        with self.assertRaises(BadGap) as caught:
            Counter(0, "set", ROUTING, gap=-1, yard=(), sheet=sheets[0])
        self.assertEqual(caught.exception.gap, -1)
        for yard in bad_yards(CREW):
            with self.assertRaises(BadYard):
                Counter(0, "set", ROUTING, gap=0, yard=yard, sheet=sheets[0])
        for sheet in sheets:
            with self.assertRaises(BadSheet):
                Counter(0, "set", ROUTING, gap=0, yard=(0,), sheet=sheet)

    def test_methods_stand_in_the_class(self):
        for name in ("__init__", "is_holder", "receive", "twin", "JOINS"):
            self.assertIn(name, vars(Counter))


class StepsTest(unittest.TestCase):

    def test_a_yard_with_a_greater_number(self):
        for keeps in (False, True):
            worker = counter(keeps=keeps)
            for key in "cab":
                send(worker, letter(key, 1, 4))
            live = {key: heap([(1, 4, 5)]) for key in "abc"}
            self.assertEqual(worker.live, live)
            found = send(worker, ("yard",), number=3, yard=(0, 1))
            self.assertEqual(found, [[(1, ("holding", "a", live["a"]), 0), (1, ("holding", "c", live["c"]), 0)], [], [], []])
            kept = {"a": live["a"], "c": live["c"]} if keeps else {}
            self.assertEqual(state(worker), [3, (0, 1), None, {"b": live["b"]}, kept])
            self.assertEqual(send(worker, ("yard",), number=3, yard=(0,)), NOTHING)
            self.assertEqual(send(worker, ("yard",), number=2, yard=(0,)), NOTHING)
            self.assertEqual(state(worker), [3, (0, 1), None, {"b": live["b"]}, kept])
            self.assertEqual(send(worker, ("yard",), number=4, yard=(0,)), NOTHING)
            self.assertEqual(state(worker), [4, (0,), None, {"b": live["b"], **kept}, {}])

    def test_letters_and_heaps_for_each_kind(self):
        for kind in KIND_NAMES:
            worker = counter(kind)
            send(worker, letter("a", 2, 4, 6))
            send(worker, letter("a", 1, 5, 7))
            self.assertEqual(worker.live, {"a": heap([(2, 4, 6), (1, 5, 7)], kind)})
            # What arrives comes behind what is live, even if it is earlier.
            arrived = heap([(5, 3, 8), (4, 2, 5)], kind)
            kept = [arrived.number, arrived.top, arrived.blocks]
            self.assertEqual(send(worker, ("holding", "a", arrived)), NOTHING)
            self.assertEqual(worker.live, {"a": heap([(2, 4, 6), (1, 5, 7)], kind) + arrived})
            self.assertEqual(worker.live["a"].number, 4)
            self.assertEqual([arrived.number, arrived.top, arrived.blocks], kept)
            self.assertEqual(send(worker, ("holding", "b", arrived)), NOTHING)
            self.assertEqual(worker.live["b"], arrived)

    def test_a_letter_twice_counts_twice(self):
        for kind in KIND_NAMES:
            worker = counter(kind)
            for _ in range(2):
                send(worker, letter("a", 0, 4))
                send(worker, letter("a", 3, 4))
            self.assertEqual([worker.live["a"].number, worker.live["a"].top], [4, 4])

    def test_telling(self):
        for kind in KIND_NAMES:
            value = (5, 5) if kind == "ends" else (5,)
            worker = counter(kind)
            send(worker, ("mark", 13, (("a", 3), ("b", 1))))
            self.assertEqual(send(worker, letter("a", 2, 9)), NOTHING)
            self.assertEqual(send(worker, letter("a", 1, 5)), NOTHING)
            self.assertEqual(send(worker, letter("a", 0, 1))[1], [("a", 1, 1, value), ("a", 5, 5, value), ("a", 9, 9, value)])
            self.assertEqual([worker.live["a"].blocks, worker.live["a"].number, worker.live["a"].top], [(), 3, 3])
            self.assertEqual(send(worker, letter("b", 0, 13)), NOTHING)
            self.assertEqual(send(worker, ("mark", None, (("a", 3), ("b", 1))))[1], [("b", 13, 13, value)])
            self.assertEqual(sorted(worker.live), ["a", "b"])

    def test_several_keys(self):
        worker = counter()
        for key in "cab":
            send(worker, letter(key, 0, 4))
        found = send(worker, ("mark", 7, (("a", 1), ("b", 2), ("c", 1))))
        self.assertEqual(found, [[], [("a", 4, 4, (5,)), ("c", 4, 4, (5,))], [], []])

    def test_what_is_not_held(self):
        body = ("holding", "a", heap([(3, 4, 5)]))
        for letters in ("forward", "drop"):
            worker = counter(yard=(0, 1), letters=letters)
            self.assertEqual(send(worker, body, hops=2), [[(1, body, 3)], [], [], []])
            found = send(worker, letter("a", 3, 4, 6), hops=1)
            wanted = [[], [], [], [("a", (3, 4, 6))]] if letters == "drop" else [[(1, letter("a", 3, 4, 6), 2)], [], [], []]
            self.assertEqual(found, wanted)
            self.assertEqual(worker.live, {})

    def test_marks(self):
        worker = counter()
        for floor, wanted in ((5, 5), (4, 5), (6, 6), (None, None), (7, None)):
            send(worker, ("mark", floor, ()))
            self.assertEqual(worker.watermark, (wanted, ()))

    def test_nothing_is_unclear_under_bag(self):
        worker = counter("bag")
        for some in ([(0, 0, 5), (1, 0, 7)], [(1, 0, 7), (2, 0, 5)]):
            self.assertEqual(send(worker, ("holding", "a", heap(some, "bag"))), NOTHING)
        self.assertEqual([worker.live["a"].number, worker.live["a"].blocks], [4, ((0, 0, (5, 5, 7, 7)),)])

    def test_twins(self):
        for keeps in (False, True):
            worker = counter(keeps=keeps, letters="drop")
            for key in "ab":
                send(worker, letter(key, 1, 4))
            send(worker, ("mark", 2, ()), number=1, yard=(0, 1))
            other = worker.twin()
            self.assertIs(type(other), Counter)
            self.assertEqual(state(other), state(worker))
            self.assertEqual([other.worker, other.kind, other.gap, other.sheet], [0, "list", 2, worker.sheet])
            before = [worker.number, worker.yard, worker.watermark, dict(worker.live), dict(worker.kept)]
            send(other, letter("b", 2, 4), number=2, yard=(0,))
            send(other, ("mark", None, ()), number=3, yard=(1,))
            self.assertEqual(state(worker), before)
            before = [other.number, other.yard, other.watermark, dict(other.live), dict(other.kept)]
            send(worker, letter("b", 0, 4), number=7, yard=(0, 2))
            self.assertEqual(state(other), before)

    def test_against_the_words(self):
        source = random.Random(651)
        count = {"dropped": 0, "kept": 0, "sends": 0, "told": 0}
        for _ in range(600):
            kind, sheet = source.choice(KIND_NAMES), source.choice(SHEETS)
            messages = RandomMessages(source, kind, "count")
            routing = routing_of(messages.rankings, source.choice(("", "take any", "take make n", "take any if seen any >= 1")))
            gap, yard = messages.gap, messages.yards[0]
            worker = Counter(1, kind, routing, gap=gap, yard=yard, sheet=sheet)
            model = WorkerByTheWords(1, kind, routing, gap=gap, yard=yard, sheet=sheet)
            for _ in range(20):
                message = messages.message(1, worker.number)
                found = worker.receive(message)
                self.assertEqual(outcome_parts(found), model.receive(message))
                self.assertEqual(state(worker), state(model))
                self.assertTrue(all(type(one) is Heap for one in worker.live.values()))
                for name in ("dropped", "sends", "told"):
                    count[name] += len(getattr(found, name))
                count["kept"] += len(worker.kept)
        self.assertTrue(all(many > 10 for many in count.values()), count)


if __name__ == "__main__":
    unittest.main()
