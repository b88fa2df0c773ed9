"""Workers with "place": points 61, 64 and 65, with 31 and 63."""

import itertools
import random
import unittest

from movedstates.errors import BadGap, BadKind, BadSheet, BadYard, UnknownName
from movedstates.holdings import Holding
from movedstates.kinds import KIND_NAMES
from movedstates.messages import Message
from movedstates.placers import Outcome, Placer
from tests.helpers import NOT_KINDS, EqualToAll, parts_seen
from tests.owners import bad_yards
from tests.workers import CREW, RandomMessages, WorkerByTheWords, outcome_parts, routing_of, state

# By (0,) all keys are held by worker 0, by (0, 1) a and c by worker 1.
ROUTING = routing_of({"a": [1, 0, 2], "b": [0, 1, 2], "c": (1, 0, 2)})
SHEETS = list(itertools.product(("place",), ("forward", "drop"), (False, True)))


def placer(kind="list", *, worker=0, gap=2, yard=(0,), letters="forward", keeps=False):
    return Placer(worker, kind, ROUTING, gap=gap, yard=yard, sheet=("place", letters, keeps))


def letter(key, number, time, value=5):
    return "letter", key, number, time, value


def send(worker, body, *, number=0, yard=(0,), hops=0):
    """The parts of the outcome of a message with this body."""
    outcome = worker.receive(Message(worker.worker, number, yard, body, hops=hops))
    return outcome_parts(outcome)


def holding(letters, kind="list", *, gap=2, base=0):
    return Holding.of(kind, letters, gap=gap, base=base)


NOTHING = [[], [], [], []]


class MadeTest(unittest.TestCase):

    def test_at_first(self):
        worker = Placer(2, "bag", ROUTING, gap=7, yard=(0, 2))
        self.assertEqual(state(worker), [0, (0, 2), None, {}, {}])
        self.assertEqual([worker.worker, worker.kind, worker.gap, worker.sheet], [2, "bag", 7, ("place", "forward", False)])
        self.assertIs(worker.routing, ROUTING)
        self.assertEqual(Placer.JOINS, "place")
        for sheet in SHEETS:
            self.assertEqual(Placer(0, "list", ROUTING, gap=0, yard=(0,), sheet=sheet).sheet, sheet)

    def test_an_outcome_at_first(self):
        outcome = Outcome()
        self.assertEqual(outcome_parts(outcome), NOTHING)
        outcome.sends.append(1)
        self.assertEqual(outcome_parts(Outcome()), NOTHING)

    def test_is_holder(self):
        self.assertEqual([placer(yard=(0,)).is_holder(key) for key in "abc"], [True, True, True])
        self.assertEqual([placer(yard=(0, 1)).is_holder(key) for key in "abc"], [False, True, False])
        self.assertEqual([placer(worker=1, yard=(0, 1)).is_holder(key) for key in "abc"], [True, False, True])
        self.assertIs(placer(worker=2, yard=(0, 1)).is_holder("a"), False)
        with self.assertRaises(UnknownName) as caught:
            placer().is_holder("d")
        self.assertEqual(caught.exception.name, "d")

    def test_errors_in_their_order(self):
        sheets = [("count", "forward", False), ("place", "forward", 0), ("place", "forward"), ["place", "forward", False]]
        for thing in NOT_KINDS:
            with self.assertRaises(BadKind) as caught:
                Placer(0, thing, ROUTING, gap=-1, yard=(), sheet=sheets[0])
            self.assertIs(caught.exception.name, thing)
        with self.assertRaises(BadGap) as caught:
            Placer(0, "set", ROUTING, gap=-1, yard=(), sheet=sheets[0])
        self.assertEqual(caught.exception.gap, -1)
        for yard in bad_yards(CREW):
            with self.assertRaises(BadYard):
                Placer(0, "set", ROUTING, gap=0, yard=yard, sheet=sheets[0])
        for sheet in sheets:
            with self.assertRaises(BadSheet):
                Placer(0, "set", ROUTING, gap=0, yard=(0,), sheet=sheet)

    def test_bad_sheets(self):
        wrong = [("count", "forward", False), ("count", "drop", True), ("place", "forward", 0), ("place", "drop", 1), ("place", "forward", None),
                 ("place", "keep", False), ("Place", "forward", False), ("forward", "place", False), ("place", "forward"), ("place",), (),
                 ("place", "forward", False, False), ["place", "forward", False], "place", None, 0, ("place", "forward", "False"),
                 (EqualToAll(), "forward", False), ("place", EqualToAll(), False), ("place", "forward", EqualToAll()), EqualToAll(),
                 ("place", ("forward",), False), ("place", ["forward"], False), (["place"], "forward", False)]
        for sheet in wrong:
            with self.assertRaises(BadSheet):
                Placer(0, "list", ROUTING, gap=0, yard=(0,), sheet=sheet)

    def test_methods_stand_in_the_class(self):
        for name in ("__init__", "is_holder", "receive", "twin", "JOINS"):
            self.assertIn(name, vars(Placer))


class YardStepTest(unittest.TestCase):

    def test_a_greater_number(self):
        for keeps in (False, True):
            worker = placer(keeps=keeps)
            for key in "cab":
                send(worker, letter(key, 1, 4))
            live = dict(worker.live)
            found = send(worker, ("yard",), number=3, yard=(0, 1))
            self.assertEqual(found, [[(1, ("holding", "a", live["a"]), 0), (1, ("holding", "c", live["c"]), 0)], [], [], []])
            kept = {"a": live["a"], "c": live["c"]} if keeps else {}
            self.assertEqual(state(worker), [3, (0, 1), None, {"b": live["b"]}, kept])

    def test_an_equal_number_and_a_smaller_one(self):
        for number in (5, 4, 0):
            worker = placer()
            send(worker, ("yard",), number=5, yard=(0, 2))
            send(worker, letter("b", 1, 4), number=5, yard=(0, 2))
            before = state(worker)
            self.assertEqual(send(worker, ("yard",), number=number, yard=(1, 2)), NOTHING)
            self.assertEqual(state(worker), before)

    def test_what_was_kept_becomes_live_again(self):
        worker = placer(keeps=True)
        for key in "ab":
            send(worker, letter(key, 1, 4))
        live = dict(worker.live)
        send(worker, ("yard",), number=1, yard=(0, 1))
        self.assertEqual(state(worker)[3:], [{"b": live["b"]}, {"a": live["a"]}])
        self.assertEqual(send(worker, ("yard",), number=2, yard=(1,))[0], [(1, ("holding", "b", live["b"]), 0)])
        self.assertEqual(state(worker)[3:], [{}, {"a": live["a"], "b": live["b"]}])
        self.assertEqual(send(worker, ("yard",), number=3, yard=(0, 1)), NOTHING)
        self.assertEqual(state(worker)[3:], [{"b": live["b"]}, {"a": live["a"]}])
        self.assertEqual(send(worker, ("yard",), number=4, yard=(0,)), NOTHING)
        self.assertEqual(state(worker)[3:], [live, {}])

    def test_a_later_kept_holding_takes_the_place_of_an_earlier_one(self):
        worker = placer(keeps=True)
        send(worker, letter("a", 1, 4))
        send(worker, ("yard",), number=1, yard=(0, 1))
        send(worker, letter("a", 2, 9), number=2, yard=(0,))
        self.assertEqual(worker.live, {"a": holding([(1, 4, 5), (2, 9, 5)])})
        send(worker, ("yard",), number=3, yard=(0, 1))
        self.assertEqual([worker.live, worker.kept], [{}, {"a": holding([(1, 4, 5), (2, 9, 5)])}])

    def test_holdings_without_blocks_are_sent_too(self):
        worker = placer()
        send(worker, letter("a", 0, 4))
        send(worker, ("mark", None, (("a", 1),)))
        self.assertEqual(worker.live, {"a": Holding.empty("list", gap=2, base=1)})
        found = send(worker, ("yard",), number=1, yard=(1,))
        self.assertEqual(found[0], [(1, ("holding", "a", Holding.empty("list", gap=2, base=1)), 0)])

    def test_each_body_brings_its_yard(self):
        bodies = [letter("b", 1, 1), ("holding", "b", holding([(1, 1, 5)])), ("mark", 1, ()), ("yard",)]
        for body in bodies:
            worker = placer()
            send(worker, letter("a", 1, 4))
            found = send(worker, body, number=1, yard=(0, 1))
            self.assertEqual(found[0], [(1, ("holding", "a", holding([(1, 4, 5)])), 0)])
            self.assertEqual([worker.number, worker.yard], [1, (0, 1)])


class MarkStepTest(unittest.TestCase):

    def test_newer_and_older_watermarks(self):
        worker = placer()
        for floor, counts, wanted in ((5, (("a", 1),), (5, (("a", 1),))), (4, (), (5, (("a", 1),))), (5, (), (5, (("a", 1),))),
                                      (6, (), (6, ())), (None, (("b", 3),), (None, (("b", 3),))), (99, (), (None, (("b", 3),))),
                                      (None, (), (None, (("b", 3),)))):
            self.assertEqual(send(worker, ("mark", floor, counts)), NOTHING)
            self.assertEqual(worker.watermark, wanted)

    def test_the_first_one(self):
        for floor in (-9, 0, None):
            worker = placer()
            send(worker, ("mark", floor, ()))
            self.assertEqual(worker.watermark, (floor, ()))

    def test_it_is_told_at_the_newest_one(self):
        worker = placer()
        send(worker, letter("a", 0, 4))
        self.assertEqual(send(worker, ("mark", 6, ())), NOTHING)
        self.assertEqual(send(worker, ("mark", 7, ()))[1], [("a", 4, 4, (5,))])
        worker = placer()
        send(worker, ("mark", 7, ()))
        self.assertEqual(send(worker, ("mark", 3, ())), NOTHING)
        self.assertEqual(send(worker, letter("a", 0, 4))[1], [("a", 4, 4, (5,))])

    def test_a_key_that_it_names_and_one_that_it_does_not(self):
        worker = placer()
        send(worker, ("mark", 9, (("b", 2),)))
        self.assertEqual(send(worker, letter("a", 0, 4))[1], [("a", 4, 4, (5,))])
        self.assertEqual(send(worker, letter("b", 0, 4))[1], [])
        self.assertEqual(send(worker, letter("b", 1, 5))[1], [("b", 4, 5, (5, 5))])


class JoinStepTest(unittest.TestCase):

    def test_letters(self):
        for kind in KIND_NAMES:
            worker = placer(kind)
            self.assertEqual(send(worker, letter("a", 2, 6)), NOTHING)
            self.assertEqual(worker.live, {"a": holding([(2, 6, 5)], kind)})
            self.assertEqual(send(worker, letter("a", 4, 8, 6), hops=4), NOTHING)
            self.assertEqual(worker.live, {"a": holding([(2, 6, 5), (4, 8, 6)], kind)})
            self.assertEqual(send(worker, letter("a", 4, 8, 6)), NOTHING)
            self.assertEqual(worker.live, {"a": holding([(2, 6, 5), (4, 8, 6)], kind)})

    def test_holdings(self):
        for kind in KIND_NAMES:
            worker = placer(kind)
            self.assertEqual(send(worker, ("holding", "a", holding([(2, 6, 5)], kind, base=1))), NOTHING)
            self.assertEqual(worker.live, {"a": holding([(2, 6, 5)], kind, base=1)})
            self.assertEqual(send(worker, ("holding", "a", holding([(4, 8, 6)], kind))), NOTHING)
            self.assertEqual(worker.live, {"a": holding([(2, 6, 5), (4, 8, 6)], kind, base=1)})

    def test_the_holding_that_arrived_stays_as_it_was(self):
        arrived = holding([(2, 6, 5)])
        kept = parts_seen(arrived)
        worker = placer()
        send(worker, ("holding", "a", arrived))
        send(worker, letter("a", 3, 6))
        self.assertEqual(parts_seen(arrived), kept)

    def test_letters_below_the_base_are_not_told_again(self):
        worker = placer()
        send(worker, letter("a", 0, 4))
        send(worker, ("mark", 9, ()))
        self.assertEqual(send(worker, letter("a", 0, 4)), NOTHING)
        self.assertEqual(send(worker, ("holding", "a", holding([(0, 4, 5)]))), NOTHING)
        self.assertEqual(worker.live, {"a": holding([], base=1)})

    def test_unclear(self):
        one, other = holding([(0, 0, 5), (1, 0, 7)], "bag"), holding([(1, 0, 7), (2, 0, 5)], "bag")
        worker = placer("bag")
        send(worker, letter("b", 0, 9))
        send(worker, ("holding", "a", one))
        self.assertEqual(send(worker, ("holding", "a", other)), [[], [], ["a"], []])
        self.assertEqual(worker.live, {"a": one, "b": holding([(0, 9, 5)], "bag")})
        self.assertEqual(send(worker, letter("a", 2, 0)), NOTHING)
        self.assertEqual(worker.live["a"], holding([(0, 0, 5), (1, 0, 7), (2, 0, 5)], "bag"))
        for kind in KIND_NAMES:
            if kind != "bag":
                worker = placer(kind)
                for some in ([(0, 0, 5), (1, 0, 7)], [(1, 0, 7), (2, 0, 5)]):
                    self.assertEqual(send(worker, ("holding", "a", holding(some, kind))), NOTHING)
                self.assertEqual(worker.live["a"], holding([(0, 0, 5), (1, 0, 7), (2, 0, 5)], kind))


class PassOnStepTest(unittest.TestCase):

    def test_forward(self):
        for body in (letter("a", 3, 4), ("holding", "a", holding([(3, 4, 5)])), letter("c", 0, 4)):
            for hops in (0, 1, 7):
                worker = placer(yard=(0, 1, 2))
                self.assertEqual(send(worker, body, hops=hops), [[(1, body, hops + 1)], [], [], []])
                self.assertEqual(state(worker), [0, (0, 1, 2), None, {}, {}])

    def test_drop(self):
        worker = placer(yard=(0, 1), letters="drop")
        self.assertEqual(send(worker, letter("a", 3, 4, 6), hops=2), [[], [], [], [("a", (3, 4, 6))]])
        body = ("holding", "a", holding([(3, 4, 5)]))
        self.assertEqual(send(worker, body, hops=2), [[(1, body, 3)], [], [], []])
        self.assertEqual(send(worker, letter("b", 3, 4, 6)), NOTHING)
        self.assertEqual(worker.live, {"b": holding([(3, 4, 6)])})

    def test_by_the_yard_of_the_worker(self):
        worker = placer(yard=(0, 1))
        send(worker, ("yard",), number=4, yard=(1, 2))
        self.assertEqual(send(worker, letter("b", 0, 4), number=2, yard=(0, 1))[0], [(1, letter("b", 0, 4), 1)])
        self.assertEqual(send(worker, letter("b", 0, 4), number=5, yard=(2,))[0], [(2, letter("b", 0, 4), 1)])


class TellStepTest(unittest.TestCase):

    def test_several_keys(self):
        worker = placer()
        for key in "cab":
            for number, time in enumerate((0, 9, 20)):
                self.assertEqual(len(send(worker, letter(key, number, time))[1]), number > 0)
        found = send(worker, ("mark", 23, (("a", 3), ("b", 3), ("c", 3))))
        self.assertEqual(found, [[], [("a", 20, 20, (5,)), ("b", 20, 20, (5,)), ("c", 20, 20, (5,))], [], []])
        self.assertEqual(worker.live, {key: holding([], base=3) for key in "abc"})

    def test_a_live_holding_without_blocks_stays(self):
        worker = placer()
        send(worker, ("mark", None, (("a", 1),)))
        self.assertEqual(send(worker, letter("a", 0, 4))[1], [("a", 4, 4, (5,))])
        self.assertEqual(worker.live, {"a": holding([], base=1)})
        self.assertEqual(send(worker, ("yard",)), NOTHING)
        self.assertEqual(worker.live, {"a": holding([], base=1)})

    def test_several_sessions_of_one_key(self):
        worker = placer()
        send(worker, letter("a", 1, 9, 6))
        send(worker, letter("a", 2, 10, 7))
        send(worker, letter("a", 3, 20, 8))
        self.assertEqual(send(worker, letter("a", 0, 4))[1], [("a", 4, 4, (5,)), ("a", 9, 10, (6, 7))])

    def test_whatever_arrived(self):
        for body in (("yard",), letter("c", 9, 90), ("holding", "b", holding([])), ("mark", 4, ())):
            worker = placer(keeps=True)
            send(worker, letter("a", 0, 4))
            send(worker, ("yard",), number=1, yard=(0, 1))
            send(worker, ("mark", 9, ()), number=1, yard=(0, 1))
            self.assertEqual(worker.kept, {"a": holding([(0, 4, 5)])})
            # What was kept becomes live with the yard, and is told at once.
            self.assertEqual(send(worker, body, number=2, yard=(0,))[1], [("a", 4, 4, (5,))])

    def test_what_is_kept_or_sent_is_not_told(self):
        worker = placer(keeps=True)
        send(worker, letter("a", 0, 4))
        self.assertEqual(send(worker, ("mark", 9, ()), number=1, yard=(0, 1))[1], [])
        self.assertEqual(worker.kept, {"a": holding([(0, 4, 5)])})


class OrderTest(unittest.TestCase):

    def test_all_steps_at_once(self):
        worker = placer(keeps=True)
        send(worker, letter("a", 1, 4))
        send(worker, letter("b", 1, 4))
        send(worker, ("yard",), number=1, yard=(0, 1))
        # Now a comes back with the yard, b goes, and a letter of a makes a session whole.
        found = send(worker, letter("a", 0, 3), number=2, yard=(0, 2))
        self.assertEqual(found, NOTHING)
        self.assertEqual([sorted(worker.live), worker.kept], [["a", "b"], {}])
        found = send(worker, letter("b", 2, 30), number=3, yard=(1, 2), hops=5)
        lives = [holding([(0, 3, 5), (1, 4, 5)]) if key == "a" else holding([(1, 4, 5)]) for key in "ab"]
        wanted = [(1, ("holding", "a", lives[0]), 0), (1, ("holding", "b", lives[1]), 0), (1, letter("b", 2, 30), 6)]
        self.assertEqual(found, [wanted, [], [], []])

    def test_the_mark_counts_for_what_has_just_come(self):
        worker = placer()
        send(worker, letter("a", 0, 4))
        found = send(worker, ("mark", None, (("a", 1),)), number=1, yard=(0, 2))
        self.assertEqual(found[1], [("a", 4, 4, (5,))])

    def test_twins(self):
        for keeps in (False, True):
            worker = placer(keeps=keeps, letters="drop")
            for key in "ab":
                send(worker, letter(key, 1, 4))
            send(worker, ("mark", 2, ()), number=1, yard=(0, 1))
            other = worker.twin()
            self.assertIs(type(other), Placer)
            self.assertEqual(state(other), state(worker))
            self.assertEqual([other.worker, other.kind, other.gap, other.sheet], [0, "list", 2, worker.sheet])
            self.assertIs(other.routing, worker.routing)
            before = [worker.number, worker.yard, worker.watermark, dict(worker.live), dict(worker.kept)]
            send(other, letter("b", 2, 4), number=2, yard=(0,))
            send(other, ("mark", None, ()), number=3, yard=(1,))
            self.assertEqual(state(worker), before)
            before = [other.number, other.yard, other.watermark, dict(other.live), dict(other.kept)]
            send(worker, letter("b", 0, 4), number=7, yard=(0, 2))
            self.assertEqual(state(other), before)

    def test_against_the_words(self):
        source = random.Random(65)
        count = {"unclear": 0, "dropped": 0, "kept": 0, "sends": 0, "told": 0}
        for _ in range(600):
            kind, sheet = source.choice(KIND_NAMES + ("bag", "bag")), source.choice(SHEETS)
            messages = RandomMessages(source, kind, "place")
            routing = routing_of(messages.rankings, source.choice(("", "take any", "take make n", "take any if seen any >= 1")))
            gap, yard = messages.gap, messages.yards[0]
            worker = Placer(1, kind, routing, gap=gap, yard=yard, sheet=sheet)
            model = WorkerByTheWords(1, kind, routing, gap=gap, yard=yard, sheet=sheet)
            for _ in range(20):
                message = messages.message(1, worker.number)
                body = message.body
                found = worker.receive(message)
                self.assertEqual(outcome_parts(found), model.receive(message))
                self.assertEqual(state(worker), state(model))
                self.assertEqual(list(vars(message).values())[3:4], [body])
                for name in ("unclear", "dropped", "sends", "told"):
                    count[name] += len(getattr(found, name))
                count["kept"] += len(worker.kept)
        self.assertTrue(all(many > 10 for many in count.values()), count)


if __name__ == "__main__":
    unittest.main()
