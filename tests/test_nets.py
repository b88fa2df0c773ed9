"""Nets: points 61 to 66, with 12, 14, 18 and 49."""

import random
import unittest

from movedstates.boards import Board
from movedstates.counters import Counter
from movedstates.crews import Crew
from movedstates.errors import BadGap, BadKind, BadName, BadRanking, BadSheet, BadYard, Finished, NoMessage, NotAgain, UnknownName
from movedstates.gates import Gate
from movedstates.heaps import Heap
from movedstates.holdings import Holding
from movedstates.kinds import KIND_NAMES
from movedstates.messages import Message, Routing
from movedstates.nets import Net, watermark_of
from movedstates.placers import Placer
from movedstates.schemes import Scheme
from movedstates.splits import parts_of
from tests.helpers import NOT_KINDS
from tests.nets import ALL, BAD_SHEETS, SHEETS, NetByTheWords, random_net, random_tape, seen_message, seen_net, without_classes
from tests.owners import bad_rankings, bad_yards, random_yard
from tests.workers import state

CREW = Crew([("x", "m"), ("y", "m"), ("z", "n")])
SCHEME = Scheme([])
# By (0,) all keys are held by worker 0, by (0, 1) a and c by worker 1.
RANKINGS = {"a": [1, 0, 2], "b": [0, 1, 2], "c": (1, 0, 2)}



def net_of(kind="list", *, gap=2, yard=(0,), sheet=("place", "forward", False), again=False, rankings=RANKINGS, crew=CREW):
    return Net(kind, gap=gap, crew=crew, scheme=SCHEME, rankings=rankings, yard=yard, sheet=sheet, again=again)


def event(key, time, value=5):
    return "event", key, time, value


def letter(key, number, time, value=5):
    return "letter", key, number, time, value


def holding(letters, kind="list", base=0, gap=2):
    return Holding.of(kind, letters, gap=gap, base=base)


def underway(net):
    """Receiver and body of each message under way."""
    return [(message.to, message.body) for message in net]


class MadeTest(unittest.TestCase):

    def test_a_new_net(self):
        for kind in KIND_NAMES:
            for sheet in SHEETS:
                for again in (False, True):
                    net = net_of(kind, gap=7, yard=(0, 2), sheet=sheet, again=again)
                    self.assertEqual([net.kind, net.gap, net.sheet, net.again, net.sent], [kind, 7, sheet, again, 0])
                    self.assertEqual([net.yards, net.underway, net.unclear, net.dropped], [[(0, 2)], [], [], []])
                    self.assertIsInstance(net.gate, Gate)
                    self.assertIsInstance(net.board, Board)
                    self.assertEqual([net.gate.known(), net.gate.floor, net.gate.finished, net.board.rows()], [[], None, False, []])
                    self.assertIsInstance(net.routing, Routing)
                    self.assertEqual(net.routing.rankings, {"a": (1, 0, 2), "b": (0, 1, 2), "c": (1, 0, 2)})
                    self.assertEqual([net.routing.crew, net.routing.scheme], [CREW, SCHEME])
                    self.assertEqual([net.newest, len(net), list(net)], [(0, 2), 0, []])
                    self.assertEqual([worker.worker for worker in net.workers], [0, 1, 2])
                    for worker in net.workers:
                        self.assertIs(type(worker), Placer if sheet[0] == "place" else Counter)
                        self.assertEqual(state(worker), [0, (0, 2), None, {}, {}])
                        self.assertEqual([worker.kind, worker.gap, worker.sheet], [kind, 7, sheet])

    def test_default_values(self):
        net = Net("bag", gap=0, crew=CREW, scheme=SCHEME, rankings={}, yard=(1,))
        self.assertEqual([net.sheet, net.again, net.routing.rankings], [("place", "forward", False), False, {}])

    def test_own_copies(self):
        ranking = [1, 0, 2]
        rankings = {"a": ranking}
        net = net_of(rankings=rankings)
        ranking.reverse()
        rankings["b"] = [0, 1, 2]
        self.assertEqual(net.routing.rankings, {"a": (1, 0, 2)})
        with self.assertRaises(UnknownName):
            net.take(event("b", 0))

    def test_arguments_stay_as_they_were(self):
        rankings = {"a": [1, 0, 2], "b": (0, 1, 2)}
        net = net_of(rankings=rankings)
        for deed in (event("a", 3), ("raise", 1), ("yard", (0, 1)), event("b", 4), ("finish",)):
            net.take(deed)
        net.settle()
        self.assertEqual(rankings, {"a": [1, 0, 2], "b": (0, 1, 2)})

    def test_errors_in_their_order(self):
        for thing in NOT_KINDS:
            with self.assertRaises(BadKind) as caught:
                net_of(thing, gap=-1, rankings={"a": []}, yard=(), sheet=None)
            self.assertIs(caught.exception.name, thing)
        with self.assertRaises(BadGap) as caught:
            net_of(gap=-2, rankings={"a": []}, yard=(), sheet=None)
        self.assertEqual(caught.exception.gap, -2)
        for ranking in bad_rankings(CREW):
            for rankings in ({"a": ranking}, {"a": [0, 1, 2], "b": ranking}):
                with self.assertRaises(BadRanking):
                    net_of(rankings=rankings, yard=(), sheet=None)
        for yard in bad_yards(CREW):
            with self.assertRaises(BadYard):
                net_of(yard=yard, sheet=None)
        for sheet in BAD_SHEETS:
            with self.subTest(sheet):
                with self.assertRaises(BadSheet):
                    net_of(sheet=sheet)

    def test_iteration(self):
        net = net_of()
        sent = net.take(event("a", 1)) + net.take(("yard", (0, 1)))
        self.assertEqual(len(net), 4)
        self.assertEqual([message is other for message, other in zip(net, sent)], [True] * 4)
        self.assertEqual(list(net), net.underway)

    def test_methods_stand_in_the_class(self):
        for name in ("__init__", "__len__", "__iter__", "newest", "take", "arrive", "split_at", "settle", "twin"):
            self.assertIn(name, vars(Net))


class TakeTest(unittest.TestCase):

    def test_an_event_that_is_let_in(self):
        net = net_of(yard=(0, 1))
        for key, time, value, to in (("a", 4, 9, 1), ("b", 4, -3, 0), ("c", 7, 5, 1)):
            before = list(net)
            sent = net.take(event(key, time, value))
            self.assertEqual([seen_message(message) for message in sent], [[to, 0, (0, 1), 0, 0, letter(key, 0, time, value)]])
            self.assertEqual(net.underway, before + sent)
        self.assertEqual(net.take(event("a", 4, 8))[0].body, letter("a", 1, 4, 8))
        self.assertEqual(net.gate.letters_of("a"), [(0, 4, 9), (1, 4, 8)])

    def test_an_event_goes_to_the_holder_by_the_newest_yard(self):
        net = net_of(yard=(0,))
        self.assertEqual(net.take(event("a", 1))[0].to, 0)
        net.take(("yard", (0, 1)))
        sent = net.take(event("a", 1))
        self.assertEqual([seen_message(message) for message in sent], [[1, 1, (0, 1), 0, 0, letter("a", 1, 1)]])
        net.take(("yard", (2,)))
        self.assertEqual([seen_message(message) for message in net.take(event("b", 1))], [[2, 2, (2,), 0, 0, letter("b", 0, 1)]])

    def test_a_late_event(self):
        net = net_of()
        net.take(event("a", 4))
        net.take(("raise", 2))
        before = list(net)
        self.assertEqual([net.take(event("a", 3)), net.take(event("b", 1))], [[], []])
        self.assertEqual(net.underway, before)
        self.assertEqual(net.gate.late(), [("a", 3, 5), ("b", 1, 5)])

    def test_a_raise(self):
        net = net_of()
        self.assertEqual([seen_message(message) for message in net.take(("raise", -4))],
                         [[worker, 0, (0,), 0, 0, ("mark", -4, ())] for worker in (0, 1, 2)])
        for key in "cac":
            net.take(event(key, 1))
        net.take(("yard", (1,)))
        # Workers that are not in the yard get it, too.
        sent = net.take(("raise", 3))
        self.assertEqual([seen_message(message) for message in sent],
                         [[worker, 1, (1,), 0, 0, ("mark", 3, (("a", 1), ("c", 2)))] for worker in (0, 1, 2)])
        self.assertEqual(net.underway[-3:], sent)
        before = list(net)
        self.assertEqual([net.take(("raise", 3)), net.take(("raise", 2))], [[], []])
        self.assertEqual([net.underway, net.gate.floor], [before, 3])

    def test_a_yard(self):
        net = net_of()
        for number, yard in enumerate([(0, 1), (0, 1), (2,), (0,)], 1):
            sent = net.take(("yard", yard))
            self.assertEqual([seen_message(message) for message in sent],
                             [[worker, number, yard, 0, 0, ("yard",)] for worker in (0, 1, 2)])
            self.assertEqual([net.newest, net.yards[-1], len(net.yards)], [yard, yard, number + 1])
        self.assertEqual(net.yards, [(0,), (0, 1), (0, 1), (2,), (0,)])

    def test_the_finish(self):
        net = net_of()
        net.take(event("b", 1))
        net.take(("raise", 0))
        net.take(event("a", 2))
        self.assertEqual([seen_message(message) for message in net.take(("finish",))],
                         [[worker, 0, (0,), 0, 0, ("mark", None, (("a", 1), ("b", 1)))] for worker in (0, 1, 2)])
        self.assertEqual([message.body for message in net_of().take(("finish",))], [("mark", None, ())] * 3)

    def test_the_messages_are_those_under_way_in_a_new_list(self):
        net = net_of()
        for deed in (event("a", 1), ("raise", 0), ("yard", (0, 1)), ("finish",)):
            many = len(net)
            sent = net.take(deed)
            self.assertTrue(all(one is other for one, other in zip(sent, net.underway[many:])))
            sent.clear()
            self.assertGreater(len(net), many)
        late = net_of()
        late.take(("raise", 9))
        sent = late.take(event("a", 1))
        sent.append(None)
        self.assertEqual([len(late), late.take(("raise", 3))], [3, []])

    def test_watermarks_of_a_gate(self):
        gate = Gate()
        self.assertIsNone(watermark_of(gate))
        gate.event("b", 3, 1)
        self.assertIsNone(watermark_of(gate))
        gate.raise_floor(2)
        for key in "bca":
            gate.event(key, 4, 1)
        gate.raise_floor(1)
        self.assertEqual(watermark_of(gate), (2, (("b", 1),)))
        gate.raise_floor(3)
        self.assertEqual(watermark_of(gate), (3, (("a", 1), ("b", 2), ("c", 1))))
        gate.event("c", 4, 1)
        gate.finish()
        self.assertEqual(watermark_of(gate), (None, (("a", 1), ("b", 2), ("c", 2))))


class TakeErrorsTest(unittest.TestCase):

    def refused(self, net, deed, error):
        before = seen_net(net)
        with self.assertRaises(error) as caught:
            net.take(deed)
        self.assertEqual(seen_net(net), before)
        return caught.exception

    def test_finished(self):
        net = net_of()
        net.take(event("a", 1))
        net.take(("finish",))
        for deed in (event("a", 1), event("zz", 1), ("raise", 5), ("yard", (0,)), ("yard", ()), ("finish",)):
            self.refused(net, deed, Finished)

    def test_unknown_names(self):
        net = net_of()
        net.take(("raise", 5))
        for key in ("d", "aa", "", "A", "a "):
            for time in (9, 1):
                self.assertEqual(self.refused(net, event(key, time), UnknownName).name, key)
        self.assertEqual(net.gate.late(), [])

    def test_bad_yards(self):
        net = net_of()
        net.take(event("a", 1))
        for yard in bad_yards(CREW):
            self.refused(net, ("yard", yard), BadYard)

    def test_a_key_that_is_no_name(self):
        net = net_of(rankings={"A": [0, 1, 2]})
        self.assertEqual(self.refused(net, event("A", 1), BadName).name, "A")


class ArriveTest(unittest.TestCase):

    def test_any_message_may_be_next(self):
        net = net_of()
        sent = [net.take(event("a", time))[0] for time in range(4)]
        self.assertEqual(net.arrive(2), [])
        self.assertEqual(list(net), [sent[0], sent[1], sent[3]])
        self.assertEqual(net.workers[0].live, {"a": holding([(2, 2, 5)])})
        net.arrive(2)
        self.assertEqual(list(net), [sent[0], sent[1]])
        self.assertEqual(net.workers[0].live, {"a": holding([(2, 2, 5), (3, 3, 5)])})

    def test_a_yard_moves_live_holdings(self):
        for keeps in (False, True):
            net = net_of(sheet=("place", "forward", keeps))
            for key in "cab":
                net.take(event(key, 1))
            net.settle()
            live = {key: holding([(0, 1, 5)]) for key in "abc"}
            net.take(("yard", (0, 1)))
            self.assertEqual([net.arrive(0), net.sent], [[], 2 * live["a"].size])
            # They come behind all that is under way.
            self.assertEqual([seen_message(message) for message in net],
                             [[1, 1, (0, 1), 0, 0, ("yard",)], [2, 1, (0, 1), 0, 0, ("yard",)],
                              [1, 1, (0, 1), 0, 0, ("holding", "a", live["a"])], [1, 1, (0, 1), 0, 0, ("holding", "c", live["c"])]])
            kept = {"a": live["a"], "c": live["c"]} if keeps else {}
            self.assertEqual(state(net.workers[0]), [1, (0, 1), None, {"b": live["b"]}, kept])
            net.arrive(2)
            self.assertEqual(state(net.workers[1]), [1, (0, 1), None, {"a": live["a"]}, {}])
            net.take(("yard", (0,)))
            net.settle()
            self.assertEqual(net.workers[0].live, live)
            self.assertEqual([worker.live for worker in net.workers[1:]], [{}, {}])
            kept = {"a": live["a"], "c": live["c"]} if keeps else {}
            self.assertEqual([worker.kept for worker in net.workers], [{}, kept, {}])
            self.assertEqual(net.sent, 4 * live["a"].size)

    def test_what_is_not_held_is_sent_on_with_the_yard_of_the_worker(self):
        net = net_of()
        net.take(event("a", 1))
        net.take(event("b", 1))
        net.take(("yard", (0, 1)))
        net.take(("yard", (2,)))
        # Worker 0 learns of the yard with the number 1 only.
        net.arrive(2)
        net.arrive(0)
        self.assertEqual(seen_message(net.underway[-1]), [1, 1, (0, 1), 1, 0, letter("a", 0, 1)])
        net.arrive(0)
        self.assertEqual(net.workers[0].live, {"b": holding([(0, 1, 5)])})
        for at, message in enumerate(net):
            if message.number == 2 and message.to == 1:
                place = at
        net.arrive(place)
        net.arrive(len(net) - 1)
        self.assertEqual(seen_message(net.underway[-1]), [2, 2, (2,), 2, 0, letter("a", 0, 1)])
        # Only what is sent for the first time counts.
        self.assertEqual(net.sent, 0)
        net.settle()
        self.assertEqual(net.sent, holding([(0, 1, 5)]).size)

    def test_a_message_brings_its_yard(self):
        net = net_of()
        net.take(event("a", 1))
        net.take(("yard", (0, 1)))
        net.take(event("a", 2))
        self.assertEqual(net.arrive(len(net) - 1), [])
        self.assertEqual(state(net.workers[1]), [1, (0, 1), None, {"a": holding([(1, 2, 5)])}, {}])

    def test_drop(self):
        for joins in ("place", "count"):
            net = net_of(sheet=(joins, "drop", False))
            for deed in (event("a", 1, 8), event("b", 1), ("yard", (0, 1))):
                net.take(deed)
            net.arrive(2)
            self.assertEqual([net.arrive(0), net.dropped, len(net)], [[], [(0, "a", (0, 1, 8))], 3])
            net.take(event("c", 4))
            net.settle()
            self.assertEqual(net.dropped, [(0, "a", (0, 1, 8))])
            self.assertEqual([sorted(worker.live) for worker in net.workers], [["b"], ["c"], []])

    def test_holdings_are_not_dropped(self):
        net = net_of(sheet=("place", "drop", False))
        net.take(event("a", 1))
        net.settle()
        for yard in ((0, 1), (2,)):
            net.take(("yard", yard))
        net.arrive(0)
        net.arrive(3)
        self.assertEqual(underway(net)[-1], (1, ("holding", "a", holding([(0, 1, 5)]))))
        net.arrive(len(net) - 1)
        self.assertEqual([underway(net)[-1], net.underway[-1].hops], [(2, ("holding", "a", holding([(0, 1, 5)]))), 1])
        self.assertEqual(net.dropped, [])

    def test_unclear(self):
        net = net_of("bag", sheet=("place", "forward", False), again=True)
        for value in (7, 5, 7):
            net.take(event("a", 0, value))
        net.arrive(0)
        net.arrive(0, stays=True)
        net.take(("yard", (0, 1)))
        net.arrive(2)
        for _ in range(2):
            net.arrive(0)
        for _ in range(2):
            net.arrive(len(net) - 1)
        self.assertEqual(net.unclear, [])
        live = holding([(1, 0, 5), (2, 0, 7)], "bag")
        self.assertEqual(net.workers[1].live, {"a": live})
        many = len(net)
        self.assertEqual(net.arrive(many - 1), [])
        self.assertEqual([net.unclear, len(net), net.workers[1].live], [[(1, "a")], many - 1, {"a": live}])

    def test_the_board_takes_the_reports(self):
        net = net_of()
        for key in "ba":
            net.take(event(key, 1, 6))
            net.take(event(key, 9, 7))
        net.take(("raise", 11))
        self.assertEqual([net.arrive(0), net.arrive(0)], [[], [("b", 1, 1, (6,))]])
        # The later letter of a, then the mark, which closes nothing.
        self.assertEqual([net.arrive(1), net.arrive(1)], [[], []])
        self.assertEqual(net.board.rows(), [("b", 1, 1, (6,))])
        self.assertEqual(net.arrive(0), [("a", 1, 1, (6,))])
        net.take(("finish",))
        self.assertEqual(net.arrive(2), [("a", 9, 9, (7,)), ("b", 9, 9, (7,))])
        self.assertEqual(net.board.rows(), [("a", 1, 1, (6,)), ("a", 9, 9, (7,)), ("b", 1, 1, (6,)), ("b", 9, 9, (7,))])
        self.assertEqual(net.board.repeats, 0)

    def test_repeats_are_told_and_counted(self):
        net = net_of(sheet=("place", "forward", True))
        for deed in (event("a", 1), ("yard", (0, 1)), ("raise", 9)):
            net.take(deed)
            net.settle()
        self.assertEqual(net.board.rows(), [("a", 1, 1, (5,))])
        net.take(("yard", (0,)))
        # Worker 0 has kept what was told by worker 1, and knows the newest floor.
        self.assertEqual(net.arrive(0), [("a", 1, 1, (5,))])
        self.assertEqual([net.board.rows(), net.board.repeats], [[("a", 1, 1, (5,))], 1])

    def test_what_stays_arrives_once_more(self):
        net = net_of(sheet=("count", "forward", False), again=True)
        first, second = net.take(event("a", 1)) + net.take(event("a", 2))
        for many in (1, 2, 3):
            self.assertEqual(net.arrive(0, stays=True), [])
            self.assertEqual(list(net), [first, second])
            self.assertEqual(net.workers[0].live["a"].number, many)
        net.arrive(0)
        self.assertEqual(list(net), [second])
        self.assertEqual(net.workers[0].live["a"].number, 4)

    def test_what_stays_stays_at_its_place(self):
        net = net_of(again=True)
        net.take(event("a", 1))
        sent = net.take(("yard", (0, 1)))
        after = net.take(event("a", 2))
        net.arrive(0)
        net.arrive(0, stays=True)
        self.assertEqual(net.underway[:4], sent + after)
        self.assertEqual(underway(net)[4:], [(1, ("holding", "a", holding([(0, 1, 5)])))])
        # Nothing is sent once more.
        net.arrive(0, stays=True)
        self.assertEqual(len(net), 5)

    def test_errors(self):
        for again in (False, True):
            net = net_of(again=again)
            for place in (-1, 0, 1):
                for stays in (False, True):
                    with self.assertRaises(NoMessage) as caught:
                        net.arrive(place, stays=stays)
                    self.assertEqual(caught.exception.place, place)
            net.take(("yard", (0,)))
            before = seen_net(net)
            for place in (-1, -3, 3, 99):
                for stays in (False, True):
                    with self.assertRaises(NoMessage) as caught:
                        net.arrive(place, stays=stays)
                    self.assertEqual(caught.exception.place, place)
            if not again:
                for place in range(3):
                    with self.assertRaises(NotAgain):
                        net.arrive(place, stays=True)
            self.assertEqual(seen_net(net), before)

    def test_the_reports_are_a_new_list(self):
        net = net_of()
        net.take(event("a", 1))
        net.take(("finish",))
        net.arrive(0)
        told = net.arrive(0)
        told.clear()
        self.assertEqual(net.board.rows(), [("a", 1, 1, (5,))])


class HeapTest(unittest.TestCase):

    def test_heaps_take_the_place_of_holdings(self):
        net = net_of("bag", sheet=("count", "forward", False))
        for time, value in ((1, 8), (2, 6)):
            net.take(event("a", time, value))
        net.arrive(1)
        heap = Heap.empty("bag", gap=2).put(1, 2, 6)
        self.assertEqual(net.workers[0].live, {"a": heap})
        net.take(("yard", (0, 1)))
        net.arrive(1)
        self.assertEqual(underway(net)[-1], (1, ("holding", "a", heap)))
        self.assertEqual(net.sent, heap.size)
        net.settle()
        self.assertEqual(net.workers[1].live, {"a": heap.put(0, 1, 8)})
        net.take(("finish",))
        net.settle()
        self.assertEqual(net.board.rows(), [("a", 1, 2, (6, 8))])


class SplitTest(unittest.TestCase):

    def moved(self, again=False):
        net = net_of(again=again)
        for time in (1, 9, 20):
            net.take(event("a", time))
        net.settle()
        net.take(("yard", (0, 1)))
        net.arrive(0)
        net.take(event("b", 3))
        return net

    def test_parts_at_its_place(self):
        net = self.moved()
        live = net.underway[2].body[2]
        self.assertEqual(live, holding([(2, 20, 5)], base=2))
        before = list(net)
        sent = net.sent
        self.assertEqual(net.split_at(2), 2)
        self.assertEqual([seen_message(message) for message in net.underway[2:4]],
                         [[1, 1, (0, 1), 0, 0, ("holding", "a", part)] for part in parts_of(live)])
        self.assertEqual(net.underway[:2] + net.underway[4:], before[:2] + before[3:])
        self.assertEqual(net.sent, sent)
        net.settle()
        self.assertEqual(net.workers[1].live, {"a": live})

    def test_hops_and_cut_number_stay(self):
        net = self.moved()
        net.underway = [Message(2, 7, (2,), net.underway[2].body, hops=3, cut_number=4)]
        self.assertEqual(net.split_at(0), 2)
        self.assertEqual([seen_message(message)[:5] for message in net], [[2, 7, (2,), 3, 4]] * 2)

    def test_several_blocks(self):
        net = net_of()
        for time in (1, 9, 20, 30):
            net.take(event("a", time))
        net.arrive(1)
        net.arrive(2)
        net.take(("yard", (0, 1)))
        net.arrive(2)
        live = holding([(1, 9, 5), (3, 30, 5)])
        self.assertEqual(net.split_at(len(net) - 1), 3)
        self.assertEqual([message.body[2] for message in net.underway[-3:]], parts_of(live))

    def test_one_part(self):
        net = net_of()
        net.take(event("a", 1))
        net.take(("raise", 9))
        net.settle()
        net.take(("yard", (0, 1)))
        net.arrive(0)
        before = seen_net(net)
        self.assertEqual([net.split_at(2), seen_net(net)], [1, before])

    def test_a_part_can_be_split_again(self):
        net = self.moved()
        net.split_at(2)
        self.assertEqual(net.split_at(3), 2)
        self.assertEqual([message.body[2] for message in net.underway[2:5]],
                         [holding([], base=2), holding([]), holding([(2, 20, 5)])])

    def test_all_other_messages(self):
        net = self.moved()
        net.take(("raise", 2))
        before = seen_net(net)
        for place in (-1, 0, 1, 3, 4, 5, 6, 7, 99):
            with self.assertRaises(NoMessage) as caught:
                net.split_at(place)
            self.assertEqual(caught.exception.place, place)
        self.assertEqual(seen_net(net), before)
        net = net_of("set", sheet=("count", "forward", False))
        net.take(event("a", 1))
        net.settle()
        net.take(("yard", (0, 1)))
        net.arrive(0)
        self.assertEqual(net.underway[2].body[0], "holding")
        with self.assertRaises(NoMessage):
            net.split_at(2)


class SettleTest(unittest.TestCase):

    def test_the_oldest_first(self):
        net = net_of(again=True)
        self.assertEqual(net.settle(), 0)
        other = net.twin()
        for one in (net, other):
            for deed in (event("a", 1), ("yard", (0, 1)), event("b", 1), ("yard", (2,)), event("a", 2), ("finish",)):
                one.take(deed)
        many = 0
        while len(other):
            other.arrive(0)
            many += 1
        self.assertEqual(net.settle(), many)
        self.assertGreater(many, 12)
        self.assertEqual(seen_net(net), seen_net(other))


class TwinTest(unittest.TestCase):

    def test_twins(self):
        source = random.Random(610)
        for _ in range(60):
            net = random_net(source)
            self.do_something(source, net)
            twin = net.twin()
            self.assertIs(type(twin), Net)
            before = seen_net(net)
            self.assertEqual(seen_net(twin), before)
            self.do_something(source, twin)
            self.assertEqual(seen_net(net), before)
            before = seen_net(twin)
            self.do_something(source, net)
            self.assertEqual(seen_net(twin), before)

    def test_what_was_noted(self):
        net = net_of(sheet=("place", "drop", False))
        net.unclear.append((1, "b"))
        net.take(event("a", 1))
        net.take(("yard", (0, 1)))
        net.arrive(1)
        net.arrive(0)
        twin = net.twin()
        self.assertEqual([twin.unclear, twin.dropped], [[(1, "b")], [(0, "a", (0, 1, 5))]])
        for noted in (twin.unclear, twin.dropped, twin.yards, twin.underway, twin.workers):
            noted.clear()
        self.assertEqual([net.unclear, net.dropped, len(net.yards)], [[(1, "b")], [(0, "a", (0, 1, 5))], 2])
        self.assertEqual([len(net), len(net.workers)], [2, 3])

    def test_equal_deeds_have_equal_effects(self):
        source = random.Random(611)
        for _ in range(40):
            net = random_net(source)
            self.do_something(source, net)
            twin = net.twin()
            seed = source.random()
            self.do_something(random.Random(seed), net)
            self.do_something(random.Random(seed), twin)
            self.assertEqual(seen_net(net), seen_net(twin))

    def do_something(self, source, net):
        for deed in random_tape(source, net, most=8, finish=0.1):
            if not net.gate.finished:
                net.take(deed)
            for _ in range(source.randint(0, 3)):
                if len(net):
                    net.arrive(source.randrange(len(net)), stays=net.again and source.random() < 0.4)


class WordsTest(unittest.TestCase):

    def test_against_the_words(self):
        source = random.Random(65)
        count = {"dropped": 0, "kept": 0, "sent": 0, "repeats": 0, "reports": 0, "splits": 0, "hops": 0}
        for row in ALL * 4:
            net = random_net(source, row, keys=source.choice(("a", "abc")))
            model = NetByTheWords(net)
            for deed in random_tape(source, net, most=25):
                self.assertEqual([seen_message(message) for message in net.take(deed)],
                                 [seen_message(message) for message in model.take(deed)])
                for _ in range(source.randint(0, 3)):
                    self.arrive_somewhere(source, net, model, count)
                self.assertEqual(without_classes(seen_net(net)), model.seen())
            while len(net):
                place = source.randrange(len(net))
                self.assertEqual(net.arrive(place), model.arrive(place))
            self.assertEqual(without_classes(seen_net(net)), model.seen())
            for name, many in (("dropped", len(net.dropped)), ("sent", net.sent),
                               ("repeats", net.board.repeats), ("reports", len(net.board)),
                               ("kept", sum(len(worker.kept) for worker in net.workers))):
                count[name] += many
        self.assertTrue(all(many > 3 for many in count.values()), count)

    def test_unclear_unions_against_the_words(self):
        source = random.Random(34)
        unclear = 0
        for _ in range(150):
            net = random_net(source, ("bag", ("place", "forward", source.random() < 0.5), True), keys="a", least=2)
            model = NetByTheWords(net)
            deeds = [("event", "a", 0, source.choice((5, 6))) for _ in range(8)]
            deeds += [("yard", random_yard(source, net.routing.crew)) for _ in range(5)]
            source.shuffle(deeds)
            for deed in deeds + [("finish",)]:
                net.take(deed)
                model.take(deed)
                for _ in range(source.randint(0, 3)):
                    self.arrive_somewhere(source, net, model, {"splits": 0, "hops": 0})
            while len(net):
                place = source.randrange(len(net))
                self.assertEqual(net.arrive(place), model.arrive(place))
            self.assertEqual(without_classes(seen_net(net)), model.seen())
            unclear += len(net.unclear)
        self.assertGreater(unclear, 9)

    def arrive_somewhere(self, source, net, model, count):
        if len(net) == 0:
            return
        place = source.randrange(len(net))
        stays = net.again and source.random() < 0.5
        if net.underway[place].body[0] == "holding" and net.sheet[0] == "place" and source.random() < 0.3:
            many = net.split_at(place)
            model.split_at(place)
            self.assertEqual(len(net), len(model.underway))
            count["splits"] += many > 1
        else:
            count["hops"] += net.underway[place].hops > 0
            self.assertEqual(net.arrive(place, stays=stays), model.arrive(place, stays))


if __name__ == "__main__":
    unittest.main()
