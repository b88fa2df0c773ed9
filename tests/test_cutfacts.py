"""What holds for closed cuts and for going on from them: point 85."""

import random
import unittest

from movedstates.cuts import resume
from movedstates.falls import fall
from movedstates.holdings import Holding
from movedstates.kinds import KIND_NAMES
from movedstates.loose import loose
from movedstates.records import record_gate, record_worker
from movedstates.runs import Run, run
from movedstates.unions import united
from tests.cutnets import known_by, parcels_of_cut, random_cut_net
from tests.nets import ALL, SAFE, plain_behind, random_tape, random_weaving, seen_gate, seen_message
from tests.workers import state

SAFE_PLACE = [row for row in SAFE if row[1][0] == "place"]
FORWARD = [(kind, ("place", "forward", keeps), again) for kind in KIND_NAMES if kind != "bag" for keeps in (False, True)
           for again in (False, True)]


def closed_cuts(source, net, tape, most=60):
    """A run along a weaving with cuts in it, and the cuts that were closed in it."""
    one = Run(net, tape)
    for choice in random_weaving(source, most):
        if source.random() < 0.12 and not one.net.cut_open:
            one.net.begin_cut()
        if one.step(choice) is None:
            break
    return one, one.net.cuts


def whole_board(net, tape):
    return plain_behind(net, tape + [("finish",)] * (("finish",) not in tape)).board


class RecordedTest(unittest.TestCase):

    def test_what_is_recorded_are_the_letters_of_the_recorded_gate(self):
        source = random.Random(850)
        count = {"cuts": 0, "messages": 0, "fronts": 0}
        for row in SAFE_PLACE * 8:
            net = random_cut_net(source, row, keys="ab")
            tape = random_tape(source, net)
            for cut in closed_cuts(source, net, tape)[1]:
                count["cuts"] += 1
                count["messages"] += len(cut.messages)
                for key in net.routing.rankings:
                    self.one_key(net, cut, key, count)
        self.assertTrue(all(many > 30 for many in count.values()), count)

    def one_key(self, net, cut, key, count):
        letters = cut.gate.gate.letters_of(key)
        reports = cut.board.reports_of(key)
        front = len([letter for letter in letters if reports and letter[1] <= reports[-1][2]])
        count["fronts"] += 0 < front < len(letters)
        parcels = parcels_of_cut(cut, key)
        self.assertEqual(united(Holding.empty(net.kind, gap=net.gap), *parcels),
                         Holding.of(net.kind, letters, gap=net.gap, base=front))
        if not net.again and not net.sheet[2] and net.kind not in ("first", "last", "ends"):
            known = sorted(number for parcel in parcels for number in known_by(parcel))
            self.assertEqual([number for number in known if number >= front], list(range(front, len(letters))))

    def test_the_board_of_a_cut(self):
        source = random.Random(851)
        reports = 0
        for row in SAFE_PLACE * 6:
            net = random_cut_net(source, row, keys="ab")
            tape = random_tape(source, net)
            for cut in closed_cuts(source, net, tape)[1]:
                plain = plain_behind(net, tape[:cut.gate.taken])
                self.assertEqual(seen_gate(cut.gate.gate), seen_gate(plain.gate))
                for key in net.routing.rankings:
                    mine = cut.board.reports_of(key)
                    self.assertEqual(mine, plain.board.reports_of(key)[:len(mine)])
                    reports += len(mine)
        self.assertGreater(reports, 50)


class GoingOnTest(unittest.TestCase):

    def test_the_board_of_the_whole_tape(self):
        source = random.Random(852)
        count = {"cuts": 0, "again": 0}
        for row in SAFE_PLACE * 6:
            net = random_cut_net(source, row, keys="ab")
            tape = random_tape(source, net)
            one, cuts = closed_cuts(source, net, tape)
            for cut in cuts:
                self.go_on(source, cut, tape, count)
            one.end()
            self.assertEqual(one.net.board, whole_board(net, tape))
        self.assertTrue(all(many > 30 for many in count.values()), count)

    def go_on(self, source, cut, tape, count, depth=0):
        """Goes on from a cut, and from a cut of the net that goes on."""
        other = resume(cut)
        repeats = other.board.repeats
        ended, later = closed_cuts(source, other, tape[cut.gate.taken:], 30)
        ended.end()
        self.assertEqual(ended.net.board, whole_board(other, tape))
        count["cuts"] += 1
        if not cut.again and not cut.sheet[2]:
            self.assertEqual(ended.net.board.repeats, repeats)
        if later and depth < 2:
            count["again"] += 1
            self.go_on(source, later[-1], tape, count, depth + 1)

    def test_nets_that_are_not_unbroken(self):
        source = random.Random(853)
        count = {"cuts": 0, "falls": 0, "loose": 0}
        for row in FORWARD * 8:
            net = random_cut_net(source, row, keys="ab")
            tape = random_tape(source, net)
            one = Run(net, tape)
            if source.random() < 0.5:
                one = self.loosened(source, one)
                count["loose"] += 1
            for choice in random_weaving(source, 60):
                if source.random() < 0.1 and not one.net.cut_open:
                    one.net.begin_cut()
                if source.random() < 0.1 and not one.net.cut_open:
                    fall(one.net, source.randrange(len(one.net.workers)))
                    count["falls"] += 1
                one.step(choice)
            for cut in one.net.cuts:
                ended = run(resume(cut), tape[cut.gate.taken:], random_weaving(source, 30))
                self.assertEqual(ended.net.board, whole_board(net, tape))
                count["cuts"] += 1
        self.assertTrue(all(many > 50 for many in count.values()), count)

    def loosened(self, source, one):
        """A run of a loose net of a later moment of the run, with the rest of its tape."""
        one.follow(random_weaving(source, 15))
        gate = record_gate(one.net)
        records = []
        for worker in range(len(one.net.workers)):
            one.follow(random_weaving(source, 3))
            records.append(record_worker(one.net, worker))
        return Run(loose(one.net, gate, records, one.net.board), one.deeds[gate.taken:])


class DisturbTest(unittest.TestCase):

    def test_cuts_change_no_holding_and_no_report(self):
        source = random.Random(854)
        cuts = 0
        for row in ALL * 4:
            net = random_cut_net(source, row)
            other = net.twin()
            for deed in random_tape(source, net, most=18, finish=0.1):
                if net.gate.finished:
                    break
                net.take(deed)
                other.take(deed)
                for _ in range(source.randint(0, 4)):
                    if source.random() < 0.2 and not net.cut_open:
                        net.begin_cut()
                    if len(net):
                        self.arrive_in_both(source, net, other)
            cuts += len(net.cuts)
            self.assertEqual(self.seen_but_cuts(net), self.seen_but_cuts(other))
        self.assertGreater(cuts, 100)

    def arrive_in_both(self, source, net, other):
        place, stays = source.randrange(len(net)), net.again and source.random() < 0.3
        message = net.underway[place]
        there = len([one for one in net.underway[:place] if one.body[0] != "cut"])
        told = net.arrive(place, stays=stays)
        if message.body[0] != "cut":
            self.assertEqual(other.arrive(there, stays=stays), told)

    def seen_but_cuts(self, net):
        messages = [seen_message(message) for message in net if message.body[0] != "cut"]
        return [[state(worker) for worker in net.workers], net.board.rows(), net.board.repeats, net.sent, net.unclear, net.dropped,
                net.told_by, net.taken, [message[:4] + message[5:] for message in messages]]

    def test_a_cut_is_closed_when_all_has_arrived(self):
        source = random.Random(855)
        for row in ALL * 3:
            one = Run(random_cut_net(source, row), [])
            one.deeds = random_tape(source, one.net)
            one.follow(random_weaving(source))
            net = one.net
            for number in (1, 2):
                self.assertEqual(net.begin_cut(), number)
                while len(net):
                    net.arrive(source.randrange(len(net)))
                self.assertEqual([net.cut_open, len(net.cuts), net.cut_numbers], [False, number, [number] * len(net.workers)])


if __name__ == "__main__":
    unittest.main()
