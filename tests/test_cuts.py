"""Cut nets and cuts: points 81 to 84, with 61 to 67."""

import random
import unittest

from movedstates.crews import Crew
from movedstates.cuts import Cut, CutNet, resume
from movedstates.errors import (BadGap, BadKind, BadRanking, BadSheet, BadYard, CutOpen, Finished, NoMessage, NotAgain, UnknownName)
from movedstates.holdings import Holding
from movedstates.nets import Net
from movedstates.records import GateRecord, Record, first_record, record_gate, record_worker
from movedstates.runs import run
from movedstates.schemes import Scheme
from tests.cutnets import CutNetByTheWords, random_cut_net, seen_cut, seen_cut_net, seen_gate_record, seen_record
from tests.nets import ALL, BAD_SHEETS, SHEETS, copied, random_tape, seen_message, seen_net, without_classes
from tests.owners import bad_rankings, bad_yards
from tests.workers import state

CREW = Crew([("x", "m"), ("y", "m"), ("z", "n")])
RANKINGS = {"a": [1, 0, 2], "b": [0, 1, 2]}


def net_of(kind="list", *, gap=2, yard=(0,), sheet=("place", "forward", False), again=False, rankings=RANKINGS):
    return CutNet(kind, gap=gap, crew=CREW, scheme=Scheme([]), rankings=rankings, yard=yard, sheet=sheet, again=again)


def event(key, time, value=5):
    return "event", key, time, value


def cut_numbers(net):
    return [message.cut_number for message in net]


def places(net, word):
    return [at for at, message in enumerate(net) if message.body[0] == word]


class MadeTest(unittest.TestCase):

    def test_a_new_one(self):
        for sheet in SHEETS:
            net = net_of("bag", sheet=sheet, again=True)
            self.assertIsInstance(net, Net)
            other = Net("bag", gap=2, crew=CREW, scheme=Scheme([]), rankings=RANKINGS, yard=(0,), sheet=sheet, again=True)
            self.assertEqual(seen_net(net), seen_net(other))
            self.assertEqual([net.cut_number, net.taken, net.cut_numbers, net.told_by, net.cuts, net.cut_open],
                             [0, 0, [0, 0, 0], [[], [], []], [], False])
        net = CutNet("set", gap=0, crew=CREW, scheme=Scheme([]), rankings={}, yard=(1,))
        self.assertEqual([net.sheet, net.again], [("place", "forward", False), False])

    def test_errors_in_their_order(self):
        with self.assertRaises(BadKind):
            net_of("bags", gap=-1, rankings={"a": []}, yard=(), sheet=None)
        with self.assertRaises(BadGap):
            net_of(gap=-1, rankings={"a": []}, yard=(), sheet=None)
        for ranking in bad_rankings(CREW):
            with self.assertRaises(BadRanking):
                net_of(rankings={"a": ranking}, yard=(), sheet=None)
        for yard in bad_yards(CREW):
            with self.assertRaises(BadYard):
                net_of(yard=yard, sheet=None)
        for sheet in BAD_SHEETS:
            with self.assertRaises(BadSheet):
                net_of(sheet=sheet)

    def test_methods_stand_in_the_class(self):
        for name in ("__init__", "take", "arrive", "twin", "cut_open", "begin_cut"):
            self.assertIn(name, vars(CutNet))


class TakenTest(unittest.TestCase):

    def test_deeds_taken(self):
        net = net_of()
        for many, deed in enumerate([event("a", 4), event("a", 3), ("raise", 2), ("raise", 1), ("yard", (0, 1)), ("finish",)], 1):
            net.take(deed)
            self.assertEqual(net.taken, many)

    def test_a_deed_that_is_refused_is_not_taken(self):
        net = net_of()
        for deed, error in ((event("zz", 1), UnknownName), (("yard", ()), BadYard)):
            with self.assertRaises(error):
                net.take(deed)
        self.assertEqual(net.taken, 0)
        net.take(("finish",))
        before = seen_cut_net(net)
        with self.assertRaises(Finished):
            net.take(event("a", 1))
        self.assertEqual(seen_cut_net(net), before)

    def test_the_messages_that_are_sent(self):
        net = net_of()
        for deed in (event("a", 1), ("raise", 0), ("yard", (0, 1)), ("finish",)):
            many = len(net)
            self.assertTrue(all(one is other for one, other in zip(net.take(deed), net.underway[many:])))

    def test_told_by(self):
        net = net_of(sheet=("place", "forward", True))
        for deed in (event("a", 1), event("b", 1), ("yard", (0, 1)), ("raise", 9), ("yard", (0,))):
            net.take(deed)
            net.settle()
        self.assertEqual(net.told_by, [[("b", 1, 1, (5,)), ("a", 1, 1, (5,))], [("a", 1, 1, (5,))], []])
        self.assertEqual([net.board.repeats, len(net.board)], [1, 2])


class BeginTest(unittest.TestCase):

    def test_what_is_sent(self):
        net = net_of()
        before = net.take(event("a", 1)) + net.take(("yard", (0, 1)))
        self.assertIs(net.cut_open, False)
        self.assertEqual(net.begin_cut(), 1)
        self.assertIs(net.cut_open, True)
        self.assertEqual(net.underway[:4], before)
        self.assertEqual([seen_message(message) for message in net.underway[4:]],
                         [[worker, 1, (0, 1), 0, 1, ("cut",)] for worker in (0, 1, 2)])
        self.assertEqual([net.cut_number, net.cut_numbers, net.taken, net.cuts], [1, [0, 0, 0], 2, []])

    def test_cut_open(self):
        net = net_of()
        net.take(event("a", 1))
        net.begin_cut()
        before = seen_cut_net(net)
        with self.assertRaises(CutOpen):
            net.begin_cut()
        self.assertEqual(seen_cut_net(net), before)
        net.settle()
        self.assertEqual([net.begin_cut(), net.cut_open, len(net.cuts)], [2, True, 1])
        with self.assertRaises(CutOpen):
            net.begin_cut()

    def test_behind_the_finish_and_ahead_of_all_deeds(self):
        net = net_of()
        net.begin_cut()
        net.settle()
        net.take(("finish",))
        self.assertEqual(net.begin_cut(), 2)
        net.settle()
        self.assertEqual([cut.gate.taken for cut in net.cuts], [0, 1])
        self.assertEqual([cut.gate.gate.finished for cut in net.cuts], [False, True])


class CutNumbersTest(unittest.TestCase):

    def test_of_the_gate(self):
        net = net_of()
        net.take(event("a", 1))
        net.begin_cut()
        for deed in (event("a", 1), ("raise", 0), ("yard", (0, 1)), ("finish",)):
            self.assertEqual({message.cut_number for message in net.take(deed)}, {1})
        self.assertEqual(cut_numbers(net)[:5], [0, 1, 1, 1, 1])

    def test_of_the_workers(self):
        for cut_first in (False, True):
            net = net_of()
            net.take(event("a", 1))
            net.settle()
            net.take(("yard", (0, 1)))
            net.begin_cut()
            if cut_first:
                net.arrive(3)
            net.arrive(0)
            # What the worker sends has its own cut number.
            self.assertEqual(net.underway[-1].body[0], "holding")
            self.assertEqual(net.underway[-1].cut_number, 1 if cut_first else 0)

    def test_what_is_sent_on(self):
        net = net_of()
        net.take(event("a", 1))
        net.take(("yard", (0, 1)))
        net.begin_cut()
        net.arrive(1)
        self.assertEqual(net.cut_numbers, [0, 0, 0])
        net.arrive(places(net, "cut")[0])
        self.assertEqual(net.cut_numbers, [1, 0, 0])
        net.arrive(0)
        self.assertEqual([net.underway[-1].body[0], net.underway[-1].hops, net.underway[-1].cut_number], ["letter", 1, 1])

    def test_any_message_of_a_later_cut_number_brings_it(self):
        for deed in (event("b", 1), ("raise", 0), ("yard", (0, 1))):
            net = net_of()
            net.begin_cut()
            net.take(deed)
            net.arrive(3)
            self.assertEqual(net.cut_numbers, [1, 0, 0])
            net.arrive(0)
            self.assertEqual(net.cut_numbers, [1, 0, 0])


class CutArrivalTest(unittest.TestCase):

    def test_nothing_else_happens(self):
        net = net_of()
        net.take(event("a", 1))
        net.take(event("b", 1))
        net.settle()
        net.take(("yard", (0, 1)))
        net.begin_cut()
        before = [[copied(part) for part in state(worker)] for worker in net.workers]
        for _ in range(3):
            self.assertEqual(net.arrive(3), [])
        # The workers have not even learned of the yard that the messages have.
        self.assertEqual([state(worker) for worker in net.workers], before)
        self.assertEqual([len(net), net.cut_numbers, net.cut_open], [3, [1, 1, 1], True])

    def test_it_may_stay(self):
        net = net_of(again=True)
        net.begin_cut()
        message = net.underway[1]
        for _ in range(2):
            self.assertEqual([net.arrive(1, stays=True), len(net), net.cut_numbers], [[], 3, [0, 1, 0]])
            self.assertIs(net.underway[1], message)
        self.assertEqual([net.arrive(1), len(net)], [[], 2])

    def test_errors(self):
        net = net_of()
        net.begin_cut()
        for place in (-1, 3, 99):
            for stays in (False, True):
                with self.assertRaises(NoMessage) as caught:
                    net.arrive(place, stays=stays)
                self.assertEqual(caught.exception.place, place)
        with self.assertRaises(NotAgain):
            net.arrive(0, stays=True)
        net.take(event("a", 1))
        before = seen_cut_net(net)
        with self.assertRaises(NotAgain):
            net.arrive(3, stays=True)
        self.assertEqual(seen_cut_net(net), before)


class ClosedTest(unittest.TestCase):

    def test_when_every_worker_and_every_message_has_the_number(self):
        net = net_of()
        sent = net.take(event("a", 1)) + net.take(event("b", 1))
        net.begin_cut()
        for left in (2, 1, 0):
            net.arrive(2)
            self.assertEqual([net.cut_open, net.cut_numbers.count(0), net.cuts], [True, left, []])
        self.assertEqual(list(net), sent)
        net.arrive(1)
        self.assertIs(net.cut_open, True)
        net.arrive(0)
        self.assertEqual([net.cut_open, len(net.cuts)], [False, 1])
        cut = net.cuts[0]
        self.assertIs(type(cut), Cut)
        self.assertEqual([cut.messages[0] is sent[1], cut.messages[1] is sent[0], len(cut.messages)], [True, True, 2])

    def test_a_worker_that_lacks_the_number(self):
        net = net_of()
        net.begin_cut()
        net.arrive(1)
        net.arrive(0)
        self.assertEqual([net.cut_open, net.cut_numbers], [True, [1, 1, 0]])
        net.take(("raise", 0))
        # The number comes with the mark; ("cut",) is still under way.
        net.arrive(3)
        self.assertEqual([net.cut_open, net.cut_numbers, places(net, "cut")], [False, [1, 1, 1], [0]])

    def test_cut_messages_of_an_older_cut_do_not_matter(self):
        net = net_of(again=True)
        net.begin_cut()
        for place in (0, 1, 2):
            net.arrive(place, stays=True)
        self.assertEqual([net.cut_open, len(net)], [False, 3])
        net.take(event("a", 1))
        net.begin_cut()
        while len(net) > 3:
            self.assertIs(net.cut_open, True)
            net.arrive(3)
        self.assertEqual([net.cut_numbers, net.cut_open, len(net.cuts)], [[2, 2, 2], False, 2])
        self.assertEqual([message.body for message in net.cuts[1].messages], [])
        # They arrive, and nothing happens.
        before = seen_cut_net(net)
        net.settle()
        after = seen_cut_net(net)
        self.assertEqual(before[:11] + before[12:], after[:11] + after[12:])

    def test_an_older_cut_message_that_arrives_in_an_open_cut_is_not_noted(self):
        net = net_of(again=True)
        net.begin_cut()
        for place in (0, 1, 2):
            net.arrive(place, stays=True)
        net.begin_cut()
        net.arrive(3)
        net.arrive(0)
        self.assertEqual([net.cut_numbers, net.cut_open], [[2, 1, 1], True])
        net.settle()
        self.assertEqual([net.cut_open, net.cuts[1].messages], [False, []])

    def test_a_message_that_stays_keeps_the_cut_open_and_is_noted_each_time(self):
        net = net_of(again=True)
        message = net.take(event("a", 1))[0]
        net.begin_cut()
        net.arrive(0, stays=True)
        for _ in range(3):
            net.arrive(1)
        for _ in range(3):
            net.arrive(0, stays=True)
            self.assertIs(net.cut_open, True)
        net.arrive(0)
        self.assertIs(net.cut_open, False)
        # The first arrival came ahead of the worker's record.
        self.assertEqual([one is message for one in net.cuts[0].messages], [True] * 4)
        self.assertEqual(net.cuts[0].records[0].live, {"a": Holding.of("list", [(0, 1, 5)], gap=2)})

    def test_what_is_sent_on_or_sent_with_the_old_number_is_noted(self):
        net = net_of()
        net.take(event("a", 1))
        net.take(event("a", 2))
        net.arrive(1)
        net.take(("yard", (0, 1)))
        net.begin_cut()
        # Worker 1 is recorded, then worker 0 sends a holding and sends on a letter.
        net.arrive(5)
        net.arrive(1)
        net.arrive(0)
        self.assertEqual([(message.body[0], message.cut_number) for message in net.underway[-2:]], [("holding", 0), ("letter", 0)])
        while net.cut_open:
            net.arrive(len(net) - 1)
        cut = net.cuts[0]
        self.assertEqual(sorted(message.body[0] for message in cut.messages if message.to == 1), ["holding", "letter", "yard"])
        self.assertEqual([record.live for record in cut.records], [{}, {}, {}])

    def test_records_of_the_moment(self):
        net = net_of(sheet=("place", "forward", True))
        for deed in (event("a", 1), event("b", 1), ("raise", 0)):
            net.take(deed)
        net.settle()
        net.take(("yard", (0, 1)))
        net.arrive(0)
        net.begin_cut()
        records = [record_worker(net, worker) for worker in (0, 1, 2)]
        gate = record_gate(net)
        for _ in range(2):
            net.arrive(places(net, "cut")[0])
        net.take(event("b", 9))
        net.take(("finish",))
        # The mark of the finish brings the number to worker 2.
        while net.cut_open:
            net.arrive(len(net) - 1)
        cut = net.cuts[0]
        self.assertEqual([type(cut.gate), *map(type, cut.records)], [GateRecord] + [Record] * 3)
        self.assertEqual([cut.number, seen_gate_record(cut.gate)], [1, seen_gate_record(gate)])
        self.assertEqual([seen_record(record) for record in cut.records], [seen_record(record) for record in records])
        self.assertEqual(sorted(cut.records[0].kept), ["a"])

    def test_the_board(self):
        net = net_of(sheet=("place", "forward", True))
        for deed in (event("a", 1, 8), event("b", 1), ("yard", (0, 1)), ("raise", 9), ("yard", (0,))):
            net.take(deed)
            net.settle()
        net.take(event("b", 20))
        net.begin_cut()
        net.settle()
        net.take(("finish",))
        net.settle()
        board = net.cuts[0].board
        self.assertEqual(board.rows(), [("a", 1, 1, (8,)), ("b", 1, 1, (5,))])
        # Workers 0 and 1 have both told the session of a.
        self.assertEqual([board.repeats, len(net.board)], [1, 3])


class TwinTest(unittest.TestCase):

    def test_in_the_middle_of_a_cut(self):
        net = net_of()
        net.take(event("a", 1))
        net.begin_cut()
        net.arrive(1)
        twin = net.twin()
        self.assertIs(type(twin), CutNet)
        self.assertEqual(seen_cut_net(twin), seen_cut_net(net))
        twin.take(event("a", 2))
        twin.arrive(0)
        self.assertEqual([len(net), net.cut_open], [3, True])
        before = seen_cut_net(twin)
        net.settle()
        self.assertEqual(seen_cut_net(twin), before)
        twin.settle()
        self.assertEqual([seen_cut(net.cuts[0])[:2], len(net.cuts[0].messages)], [seen_cut(twin.cuts[0])[:2], 1])
        twin.begin_cut()
        with self.assertRaises(CutOpen):
            twin.twin().begin_cut()
        self.assertIs(net.cut_open, False)

    def test_records_and_noted_messages_of_an_open_cut(self):
        net = net_of(yard=(0, 1))
        net.take(event("a", 1))
        net.take(event("b", 1))
        net.begin_cut()
        twin = net.twin()
        # In the twin worker 1 is recorded ahead of its letter, and worker 0 behind its own; in the net the other way round.
        for one, order in ((twin, ("cut", "letter", "letter", "cut")), (net, ("letter", "cut", "cut", "letter"))):
            for to, word in zip((1, 1, 0, 0), order):
                one.arrive([at for at, message in enumerate(one) if message.to == to and message.body[0] == word][0])
        for one in (twin, net):
            self.assertIs(one.cut_open, True)
            one.settle()
        self.assertEqual([sorted(record.live) for record in twin.cuts[0].records], [["b"], [], []])
        self.assertEqual([sorted(record.live) for record in net.cuts[0].records], [[], ["a"], []])
        self.assertEqual([[message.to for message in one.cuts[0].messages] for one in (twin, net)], [[1], [0]])

    def test_at_random(self):
        source = random.Random(810)
        for row in ALL * 2:
            net = random_cut_net(source, row)
            do_something(source, net)
            twin = net.twin()
            before = seen_cut_net(net)
            self.assertEqual(seen_cut_net(twin), before)
            do_something(source, twin)
            self.assertEqual(seen_cut_net(net), before)
            seed, before = source.random(), seen_cut_net(twin)
            other = net.twin()
            do_something(random.Random(seed), net)
            self.assertEqual(seen_cut_net(twin), before)
            do_something(random.Random(seed), other)
            self.assertEqual(seen_cut_net(net), seen_cut_net(other))


def do_something(source, net, model=None, test=None):
    """Deeds, arrivals, splits and cuts; at the model, too, if there is one."""
    for deed in random_tape(source, net, most=12, finish=0.1):
        if net.gate.finished:
            break
        sent = net.take(deed)
        if model:
            test.assertEqual([seen_message(one) for one in sent], [seen_message(one) for one in model.take(deed)])
        for _ in range(source.randint(0, 4)):
            if source.random() < 0.15 and not net.cut_open:
                number = net.begin_cut()
                if model:
                    test.assertEqual(number, model.begin_cut())
            if len(net) == 0:
                continue
            place, stays = source.randrange(len(net)), net.again and source.random() < 0.3
            if net.underway[place].body[0] == "holding" and net.sheet[0] == "place" and source.random() < 0.3:
                net.split_at(place)
                if model:
                    model.split_at(place)
                continue
            told = net.arrive(place, stays=stays)
            if model:
                test.assertEqual(told, model.arrive(place, stays))


class WordsTest(unittest.TestCase):

    def test_against_the_words(self):
        source = random.Random(811)
        count = {"cuts": 0, "messages": 0, "repeats": 0, "reports": 0, "resumed": 0}
        for row in ALL * 4:
            net = random_cut_net(source, row)
            self.compare(source, net, count)
            for cut in net.cuts[:2]:
                # Cuts of a net that goes on from a cut.
                self.compare(source, resume(cut), count)
                count["resumed"] += 1
        self.assertTrue(all(many > 10 for many in count.values()), count)

    def compare(self, source, net, count):
        model = CutNetByTheWords(net)
        for _ in range(2):
            do_something(source, net, model, self)
        self.assertEqual(without_classes(seen_cut_net(net)), model.seen())
        while len(net):
            place = source.randrange(len(net))
            self.assertEqual(net.arrive(place), model.arrive(place))
        self.assertEqual(without_classes(seen_cut_net(net)), model.seen())
        count["cuts"] += len(net.cuts)
        count["messages"] += sum(len(cut.messages) for cut in net.cuts)
        count["repeats"] += sum(cut.board.repeats for cut in net.cuts)
        count["reports"] += sum(len(cut.board) for cut in net.cuts)


class ResumeTest(unittest.TestCase):

    def cut_of(self, again=False, sheet=("place", "forward", True)):
        """A cut with letters, a yard and a mark under way, of a net that has told something."""
        net = net_of("bag", sheet=sheet, again=again)
        for deed in (event("a", 1), event("b", 1), ("raise", 9), event("a", 12), event("b", 13)):
            net.take(deed)
        net.settle()
        for deed in (("yard", (0, 1)), event("a", 14, 7), ("raise", 14)):
            net.take(deed)
        net.arrive(0)
        net.begin_cut()
        net.take(event("b", 15))
        for _ in range(3):
            net.arrive(places(net, "cut")[0])
        net.settle()
        self.assertEqual(len(net.cuts), 1)
        return net, net.cuts[0]

    def test_each_attribute(self):
        for again in (False, True):
            net, cut = self.cut_of(again)
            net.take(("finish",))
            net.settle()
            other = resume(cut)
            self.assertIs(type(other), CutNet)
            self.assertEqual([other.kind, other.gap, other.sheet, other.again], ["bag", 2, ("place", "forward", True), again])
            self.assertEqual([other.routing.crew, other.routing.rankings], [CREW, net.routing.rankings])
            self.assertEqual(seen_gate_record(record_gate(other)), seen_gate_record(cut.gate))
            self.assertEqual([other.taken, other.yards, other.newest], [8, [(0,), (0, 1)], (0, 1)])
            for worker, record in zip(other.workers, cut.records):
                self.assertEqual(state(worker), seen_record(record)[:5])
                self.assertEqual([worker.kind, worker.gap, worker.sheet], ["bag", 2, ("place", "forward", True)])
            self.assertEqual([other.board, other.board.repeats], [cut.board, cut.board.repeats])
            self.assertGreater(len(cut.messages), 4)
            self.assertEqual([seen_message(message) for message in other],
                             [seen_message(message)[:4] + [1, message.body] for message in cut.messages])
            self.assertEqual([other.cut_number, other.cut_numbers, other.cut_open, other.cuts], [1, [1, 1, 1], False, []])
            self.assertEqual([other.told_by, other.unclear, other.dropped, other.sent], [[[], [], []], [], [], 0])

    def test_the_cut_stays_as_it_was_and_one_can_go_on_twice(self):
        net, cut = self.cut_of()
        before = seen_cut(cut)
        one, other = resume(cut), resume(cut)
        first = seen_cut_net(other)
        one.settle()
        for deed in (event("a", 30), ("yard", (2,)), ("raise", 40), ("finish",)):
            one.take(deed)
        one.settle()
        one.begin_cut()
        one.settle()
        self.assertEqual([seen_cut(cut), seen_cut_net(other)], [before, first])
        self.assertEqual(seen_cut_net(resume(cut)), first)
        ahead = seen_cut_net(net)
        other.settle()
        self.assertEqual(seen_cut_net(net), ahead)

    def test_cut_numbers_go_on(self):
        net, cut = self.cut_of()
        other = resume(cut)
        self.assertEqual(other.begin_cut(), 2)
        self.assertEqual({message.cut_number for message in other}, {1, 2})
        other.settle()
        self.assertEqual([other.cuts[0].number, other.cut_numbers, net.begin_cut()], [2, [2, 2, 2], 2])

    def test_the_board_of_a_later_cut_has_what_was_told_before(self):
        _, cut = self.cut_of()
        other = resume(cut)
        other.settle()
        other.take(("raise", 90))
        other.settle()
        other.begin_cut()
        other.settle()
        later = other.cuts[0]
        self.assertEqual(later.board, other.board)
        self.assertGreater(len(later.board), len(cut.board))
        self.assertTrue(all(report in later.board for report in cut.board))
        self.assertEqual(sum(len(record.told) for record in later.records), len(later.board) - len(cut.board))

    def test_with_heaps(self):
        net = net_of("set", sheet=("count", "forward", False))
        net.take(event("a", 1))
        net.take(event("a", 2, 7))
        net.arrive(0)
        net.begin_cut()
        net.settle()
        other = run(resume(net.cuts[0]), [event("a", 3, 6)]).net
        self.assertEqual(other.board.rows(), [("a", 1, 3, (5, 6, 7))])

    def test_the_first_yard_is_still_the_first(self):
        _, cut = self.cut_of()
        other = resume(cut)
        self.assertEqual(first_record(other).yard, (0,))
        self.assertEqual(other.twin().yards, [(0,), (0, 1)])
        self.assertEqual(seen_cut_net(other.twin()), seen_cut_net(other))

    def test_the_example(self):
        net = CutNet("list", gap=2, crew=Crew([("x", "m")]), scheme=Scheme([]), rankings={"a": [0]}, yard=(0,))
        sent = [net.take(("event", "a", 0, 7)), net.begin_cut(), net.take(("event", "a", 1, 5))]
        self.assertEqual(sent[1], 1)
        told = [net.arrive(1), net.cut_open, net.arrive(0), net.cut_open]
        cut = net.cuts[0]
        behind = run(resume(cut), [("event", "a", 1, 5)])
        self.assertEqual([told, cut.gate.taken, cut.records[0].live, cut.messages[0].body, behind.net.board.rows()],
                         [[[], True, [], False], 1, {}, ("letter", "a", 0, 0, 7), [("a", 0, 1, (7, 5))]])


if __name__ == "__main__":
    unittest.main()
