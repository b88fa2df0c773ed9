"""Loose nets: points 86, 87 and 90."""

import random
import unittest

from movedstates.boards import Board
from movedstates.crews import Crew
from movedstates.cuts import CutNet
from movedstates.errors import BadSheet
from movedstates.kinds import KIND_NAMES
from movedstates.loose import lacking, loose
from movedstates.records import first_record, record_gate, record_worker
from movedstates.runs import Run, run
from movedstates.schemes import Scheme
from tests.cutnets import random_cut_net, seen_cut_net, seen_gate_record, seen_record
from tests.nets import SAFE, SHEETS, plain_behind, random_tape, random_weaving, seen_message
from tests.workers import state

CREW = Crew([("x", "m"), ("y", "m"), ("z", "n")])
RANKINGS = {"a": [1, 0, 2], "b": [0, 1, 2]}
FORWARD = [(kind, ("place", "forward", keeps), again) for kind in KIND_NAMES for keeps in (False, True) for again in (False, True)]


def net_of(kind="list", *, gap=2, yard=(0,), sheet=("place", "forward", False), again=False):
    return CutNet(kind, gap=gap, crew=CREW, scheme=Scheme([]), rankings=RANKINGS, yard=yard, sheet=sheet, again=again)


def event(key, time, value=5):
    return "event", key, time, value


def records_of(net):
    return [record_worker(net, worker) for worker in range(len(net.workers))]


def lacking_by_the_words(gate_record, records):
    """Keys and numbers ascending, each letter that no live holding in a record covers."""
    found = []
    for key in sorted(gate_record.gate.known()):
        for letter in gate_record.gate.letters_of(key):
            if not any(letter[0] in record.live[key] for record in records if key in record.live):
                found.append((key, letter))
    return found


class LackingTest(unittest.TestCase):

    def test_nothing_lacks_when_nothing_is_under_way(self):
        net = net_of()
        for deed in (event("a", 1), event("b", 1), event("a", 2), ("yard", (0, 1)), ("raise", 4)):
            net.take(deed)
        net.settle()
        self.assertEqual(lacking(record_gate(net), records_of(net)), [])

    def test_letters_under_way(self):
        net = net_of()
        for deed in (event("b", 1, 7), event("a", 1), event("b", 2, 8), event("a", 3)):
            net.take(deed)
        net.arrive(1)
        net.arrive(1)
        self.assertEqual(lacking(record_gate(net), records_of(net)), [("a", (1, 3, 5)), ("b", (0, 1, 7))])
        first = [first_record(net)] * 3
        self.assertEqual(lacking(record_gate(net), first), [("a", (0, 1, 5)), ("a", (1, 3, 5)), ("b", (0, 1, 7)), ("b", (1, 2, 8))])

    def test_letters_in_holdings_under_way_and_in_kept_ones(self):
        net = net_of(sheet=("place", "forward", True))
        net.take(event("a", 1))
        net.settle()
        net.take(("yard", (0, 1)))
        net.arrive(0)
        self.assertEqual(sorted(net.workers[0].kept), ["a"])
        self.assertEqual(lacking(record_gate(net), records_of(net)), [("a", (0, 1, 5))])

    def test_letters_below_a_base_are_covered(self):
        net = net_of()
        for deed in (event("a", 1), event("a", 9), event("a", 20)):
            net.take(deed)
        net.arrive(0)
        net.arrive(0)
        self.assertEqual(net.workers[0].live["a"].base, 1)
        self.assertEqual(lacking(record_gate(net), records_of(net)), [("a", (2, 20, 5))])

    def test_outer_kinds_cover_what_is_between(self):
        for kind, wanted in (("ends", []), ("first", []), ("last", []), ("list", [("a", (1, 2, 5))]), ("set", [("a", (1, 2, 5))])):
            net = net_of(kind)
            for time in (1, 2, 3):
                net.take(event("a", time))
            net.arrive(0)
            net.arrive(1)
            self.assertEqual(lacking(record_gate(net), records_of(net)), wanted)

    def test_records_stay_as_they_were(self):
        net = net_of()
        net.take(event("a", 1))
        gate, records = record_gate(net), records_of(net)
        before = [seen_gate_record(gate), [seen_record(record) for record in records]]
        lacking(gate, records).clear()
        self.assertEqual(len(lacking(gate, records)), 1)
        run(loose(net, gate, records, net.board), [event("a", 2), ("yard", (1, 2)), ("raise", 9)])
        self.assertEqual([seen_gate_record(gate), [seen_record(record) for record in records]], before)


class MadeTest(unittest.TestCase):

    def test_what_is_sent_first_and_in_which_order(self):
        net = net_of()
        for deed in (event("b", 1, 7), event("a", 1), ("raise", 1), event("a", 3), ("yard", (0, 1))):
            net.take(deed)
        other = loose(net, record_gate(net), records_of(net), net.board)
        wanted = []
        for worker in (0, 1, 2):
            # The watermark as it was given, ahead of the second letter of a.
            wanted += [[worker, 1, (0, 1), 0, 0, ("yard",)], [worker, 1, (0, 1), 0, 0, ("mark", 1, (("a", 1), ("b", 1)))]]
        wanted += [[1, 1, (0, 1), 0, 0, ("letter", "a", 0, 1, 5)], [1, 1, (0, 1), 0, 0, ("letter", "a", 1, 3, 5)],
                   [0, 1, (0, 1), 0, 0, ("letter", "b", 0, 1, 7)]]
        self.assertEqual([seen_message(message) for message in other], wanted)

    def test_without_a_watermark_and_behind_the_finish(self):
        net = net_of()
        net.take(event("a", 1))
        other = loose(net, record_gate(net), records_of(net), net.board)
        self.assertEqual([message.body for message in other], [("yard",)] * 3 + [("letter", "a", 0, 1, 5)])
        net.take(("raise", 9))
        net.take(event("b", 10))
        net.take(("finish",))
        other = loose(net, record_gate(net), records_of(net), net.board)
        self.assertEqual([message.body for message in other][:6], [("yard",), ("mark", None, (("a", 1), ("b", 1)))] * 3)

    def test_each_attribute(self):
        for again in (False, True):
            for keeps in (False, True):
                net = net_of("heads", sheet=("place", "forward", keeps), again=again)
                for deed in (event("a", 1), event("b", 2), ("raise", 9), ("yard", (0, 1)), event("b", 12)):
                    net.take(deed)
                    net.settle()
                net.begin_cut()
                net.settle()
                net.take(event("a", 30))
                gate, records, board = record_gate(net), records_of(net), net.board
                before = seen_cut_net(net)
                other = loose(net, gate, records, board)
                self.assertIs(type(other), CutNet)
                self.assertEqual([other.kind, other.gap, other.sheet, other.again], ["heads", 2, ("place", "forward", keeps), again])
                self.assertEqual([other.routing.crew, other.routing.rankings], [CREW, net.routing.rankings])
                self.assertEqual(seen_gate_record(record_gate(other)), seen_gate_record(gate))
                self.assertEqual([other.taken, other.yards], [6, [(0,), (0, 1)]])
                self.assertEqual([state(worker) for worker in other.workers], [seen_record(record)[:5] for record in records])
                self.assertEqual([other.board, other.board.repeats], [board, board.repeats])
                self.assertEqual([other.cut_number, other.cut_numbers, other.cut_open, other.cuts], [0, [0, 0, 0], False, []])
                self.assertEqual([other.told_by, other.unclear, other.dropped, other.sent], [[[], [], []], [], [], 0])
                other.settle()
                other.take(event("a", 31))
                other.take(("finish",))
                other.settle()
                self.assertEqual(seen_cut_net(net), before)

    def test_the_given_board(self):
        net = net_of()
        net.take(event("a", 1))
        gate, records = record_gate(net), records_of(net)
        board = Board()
        board.take(("b", 0, 0, (1,)))
        board.take(("b", 0, 0, (1,)))
        other = loose(net, gate, records, board)
        self.assertEqual([other.board.rows(), other.board.repeats], [[("b", 0, 0, (1,))], 1])
        other.board.take(("b", 9, 9, (1,)))
        self.assertEqual(len(board), 1)
        # A cut of the loose net begins with it.
        other.begin_cut()
        other.settle()
        self.assertEqual([other.cuts[0].board.rows(), other.cuts[0].board.repeats], [[("b", 0, 0, (1,))], 0])

    def test_cuts_of_a_loose_net(self):
        net = net_of()
        net.begin_cut()
        net.settle()
        net.begin_cut()
        other = loose(net, record_gate(net), records_of(net), net.board)
        self.assertEqual([other.begin_cut(), {message.cut_number for message in other}], [1, {0, 1}])
        other.settle()
        self.assertEqual([len(other.cuts), len(net.cuts)], [1, 1])

    def test_count(self):
        for sheet in SHEETS:
            net = net_of(sheet=sheet)
            if sheet[0] == "count":
                with self.assertRaises(BadSheet):
                    loose(net, record_gate(net), records_of(net), net.board)
            else:
                self.assertEqual(len(loose(net, record_gate(net), records_of(net), net.board)), 3)


class PlainRunTest(unittest.TestCase):

    def moments(self, source, one):
        """What a run has recorded at many moments: the gate, all workers and the board."""
        found = []
        for choice in random_weaving(source, 60):
            found.append((record_gate(one.net), records_of(one.net), one.net.board.twin()))
            one.step(choice)
        return found + [(record_gate(one.net), records_of(one.net), one.net.board.twin())]

    def test_every_kind_but_bag_from_records_of_different_moments(self):
        source = random.Random(870)
        count = {"lacking": 0, "nothing lacks": 0, "reports": 0}
        for row in FORWARD * 8:
            if row[0] == "bag":
                continue
            net = random_cut_net(source, row, keys="ab")
            tape = random_tape(source, net)
            moments = self.moments(source, Run(net, tape))
            one_moment = source.random() < 0.2
            when = [source.randrange(len(moments))] * (len(net.workers) + 1)
            if not one_moment:
                when = [source.randrange(len(moments)) for _ in when]
            gate = moments[when[0]][0]
            records = [moments[at][1][worker] for worker, at in enumerate(when[1:])]
            board = moments[source.randrange(max(when), len(moments))][2]
            other = loose(net, gate, records, board)
            letters = lacking(gate, records)
            self.assertEqual(letters, lacking_by_the_words(gate, records))
            self.assertEqual([message.body for message in other if message.body[0] == "letter"],
                             [("letter", key, *letter) for key, letter in letters])
            count["lacking" if letters else "nothing lacks"] += 1
            ended = run(other, tape[gate.taken:], random_weaving(source))
            self.assertEqual(ended.net.board, plain_behind(net, tape + [("finish",)] * (("finish",) not in tape)).board)
            count["reports"] += len(ended.net.board)
        self.assertTrue(all(many > 30 for many in count.values()), count)

    def test_records_of_one_moment_at_which_nothing_is_under_way(self):
        source = random.Random(900)
        for row in [row for row in SAFE if row[1][0] == "place"] * 4:
            net = random_cut_net(source, row, keys="ab")
            tape = random_tape(source, net)
            one = Run(net, tape)
            one.follow(random_weaving(source))
            one.net.settle()
            gate, records = record_gate(one.net), records_of(one.net)
            self.assertEqual(lacking(gate, records), [])
            other = loose(one.net, gate, records, one.net.board)
            self.assertEqual([message.body[0] for message in other if message.body[0] == "letter"], [])
            ended = run(other, tape[gate.taken:], random_weaving(source))
            self.assertEqual(ended.net.board, plain_behind(net, tape + [("finish",)] * (("finish",) not in tape)).board)

    def test_the_example_under_bag(self):
        crew = Crew([("x", "m"), ("y", "m")])
        net = CutNet("bag", gap=0, crew=crew, scheme=Scheme([]), rankings={"a": [1, 0]}, yard=(0,))
        for value in (1, 2, 3, 3):
            net.take(("event", "a", 0, value))
        gate = record_gate(net)
        net.arrive(0)
        net.arrive(0)
        old = record_worker(net, 0)
        net.arrive(0)
        net.take(("yard", (0, 1)))
        net.arrive(1)
        net.arrive(2)
        records = [old, record_worker(net, 1)]
        mended = loose(net, gate, records, net.board)
        mended.settle()
        mended.take(("yard", (0, 1)))
        mended.settle()
        self.assertEqual([lacking(gate, records), mended.unclear], [[("a", (3, 0, 3))], [(1, "a")]])


if __name__ == "__main__":
    unittest.main()
