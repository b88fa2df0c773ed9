"""What nets keep to at every moment, and what they come to: points 68 and 70."""

import random
import unittest

from movedstates.holdings import Holding
from movedstates.messages import newer
from movedstates.nets import watermark_of
from movedstates.plainruns import PlainRun
from movedstates.runs import Run, run
from movedstates.sessions import cut_sessions
from tests.nets import ALL, SAFE, plain_behind, random_net, random_tape, random_weaving

PLACE = [row for row in ALL if row[1][0] == "place"]


def reports_of_all_letters(net, key):
    return [(key, *session[2:]) for session in cut_sessions(net.kind, net.gate.letters_of(key), gap=net.gap)]


class HopsTest(unittest.TestCase):

    def test_hops(self):
        source = random.Random(680)
        most = 0
        for row in ALL * 3:
            net = random_net(source, row)
            # For each message under way the number with which its letter or holding was first sent.
            origins = []
            tape = random_tape(source, net, most=25, words=("event", "event", "yard"))
            while tape or len(net):
                if tape and (not len(net) or source.random() < 0.4):
                    sent = net.take(tape.pop(0))
                    origins += [message.number for message in sent]
                    continue
                place = source.randrange(len(net))
                stays = net.again and source.random() < 0.3
                arrived, origin, many = net.underway[place], origins[place], len(net)
                net.arrive(place, stays=stays)
                if not stays:
                    del origins[place]
                for message in net.underway[many - (not stays):]:
                    if message.hops > 0:
                        self.assertEqual(message.hops, arrived.hops + 1)
                        self.assertGreater(message.number, arrived.number)
                        self.assertIs(message.body, arrived.body)
                    origins.append(origin if message.hops > 0 else message.number)
                newest = len(net.yards) - 1
                for message, first in zip(net, origins):
                    self.assertLessEqual(message.hops, newest - first)
                    most = max(most, message.hops)
        self.assertGreater(most, 1)

    def test_the_bound_of_arrivals(self):
        source = random.Random(681)
        for row in ALL * 3:
            one = Run(random_net(source, row), [])
            one.deeds = random_tape(source, one.net, most=30, words=("event", "event", "yard", "raise"), finish=0)
            one.follow(random_weaving(source))
            one.deeds = one.deeds[:one.at] + [("finish",)]
            one.step(0)
            net = one.net
            newest, keys = len(net.yards) - 1, len(net.gate.known())
            bound = (len(net) + len(net.workers) * newest * keys) * (newest + 1)
            many = 0
            while len(net):
                net.arrive(source.choice((0, len(net) - 1, source.randrange(len(net)))))
                many += 1
            self.assertLessEqual(many, bound)

    def test_when_nothing_is_under_way(self):
        source = random.Random(682)
        moments = {"place": 0, "count": 0, "kept": 0, "no letters": 0}
        for row in ALL * 4:
            net = random_net(source, row)
            for deed in random_tape(source, net, most=12):
                net.take(deed)
                if source.random() < 0.6:
                    continue
                while len(net):
                    net.arrive(source.randrange(len(net)), stays=net.again and source.random() < 0.2)
                moments[row[1][0]] += 1
                self.at_rest(net, moments)
        self.assertTrue(all(many > 30 for many in moments.values()), moments)

    def at_rest(self, net, moments):
        watermark = watermark_of(net.gate)
        for worker in net.workers:
            self.assertEqual([worker.number, worker.yard, worker.watermark], [len(net.yards) - 1, net.newest, watermark])
            moments["kept"] += len(worker.kept)
        for key in net.routing.rankings:
            where = [worker.worker for worker in net.workers if key in worker.live]
            holder = net.routing.holder_of(key, net.newest)
            self.assertIn(where, ([], [holder]))
            letters = net.gate.letters_of(key)
            dropped = [letter for _, other, letter in net.dropped if other == key]
            if any(letter not in dropped for letter in letters):
                self.assertEqual(where, [holder])
            if not letters:
                moments["no letters"] += 1
                self.assertEqual(where, [])


class BoardTest(unittest.TestCase):

    def test_only_what_the_plain_run_has_told_in_order(self):
        source = random.Random(700)
        reports = 0
        for row in PLACE * 5:
            one = Run(random_net(source, row), [])
            one.deeds = random_tape(source, one.net, most=20)
            for choice in random_weaving(source, 60):
                one.step(choice)
                plain = plain_behind(one.net, one.deeds[:one.at])
                for key in one.net.routing.rankings:
                    mine = one.net.board.reports_of(key)
                    self.assertEqual(mine, reports_of_all_letters(one.net, key)[:len(mine)])
                    self.assertEqual(mine, plain.board.reports_of(key)[:len(mine)])
                    reports += len(mine)
        self.assertGreater(reports, 300)

    def test_safe_nets_have_all_of_it_when_nothing_is_under_way(self):
        source = random.Random(701)
        for row in SAFE * 6:
            net = random_net(source, row)
            plain = PlainRun(net.kind, gap=net.gap)
            for deed in random_tape(source, net, most=14):
                net.take(deed)
                plain.take(deed)
                if source.random() < 0.4:
                    while len(net):
                        net.arrive(source.randrange(len(net)), stays=net.again and source.random() < 0.3)
                    self.assertEqual(net.board, plain.board)

    def test_two_weavings_of_one_tape(self):
        source = random.Random(702)
        for row in SAFE * 8:
            net = random_net(source, row)
            tape = random_tape(source, net, most=16)
            one, other = [run(net, tape, random_weaving(source, 60)) for _ in range(2)]
            plain = plain_behind(net, one.deeds)
            self.assertEqual([one.net.board, other.net.board], [plain.board, plain.board])
            for ended in (one.net, other.net):
                for key in ended.gate.known():
                    many = ended.gate.count_of(key)
                    live = ended.workers[ended.routing.holder_of(key, ended.newest)].live[key]
                    if row[1][0] == "place":
                        self.assertEqual(live, Holding.empty(ended.kind, gap=ended.gap, base=many))
                    else:
                        self.assertEqual([live.number, live.top, live.blocks], [many, many, ()])

    def test_place_agrees_in_all_settings_but_for_what_is_missing(self):
        source = random.Random(703)
        for row in PLACE * 5:
            net = random_net(source, row)
            tape = random_tape(source, net, most=16)
            ended = run(net, tape, random_weaving(source, 60)).net
            due = plain_behind(net, tape + [("finish",)] * (("finish",) not in tape)).board
            for key in net.routing.rankings:
                mine = ended.board.reports_of(key)
                self.assertEqual(mine, due.reports_of(key)[:len(mine)])


class OnceMoreTest(unittest.TestCase):

    def seen(self, net):
        return [[(dict(worker.live), dict(worker.kept)) for worker in net.workers], net.board.rows()]

    def test_an_arrival_once_more_at_once(self):
        source = random.Random(704)
        count = {"letter": 0, "holding": 0}
        for row in PLACE * 8:
            net = random_net(source, (row[0], row[1], True))
            for deed in random_tape(source, net, most=16, words=("event", "event", "yard")):
                net.take(deed)
                for _ in range(source.randint(0, 3)):
                    if len(net):
                        self.once_more(source, net, count)
        self.assertTrue(all(many > 50 for many in count.values()), count)

    def once_more(self, source, net, count):
        place = source.randrange(len(net))
        message = net.underway[place]
        net.arrive(place, stays=True)
        before = self.seen(net)
        if message.body[0] in count and net.workers[message.to].is_holder(message.body[1]):
            net.arrive(place, stays=True)
            self.assertEqual(self.seen(net), before)
            count[message.body[0]] += 1
        if source.random() < 0.7:
            net.arrive(place)


class SentTest(unittest.TestCase):

    def test_what_a_yard_moves(self):
        source = random.Random(705)
        grown = 0
        for row in ALL * 4:
            net = random_net(source, row)
            for deed in random_tape(source, net, most=16, words=("event", "event", "event", "raise", "yard"), finish=0):
                if deed[0] != "yard":
                    net.take(deed)
                    continue
                net.settle()
                live = {key: worker.live[key] for worker in net.workers for key in worker.live}
                sizes = [live[key].size for key in live
                         if net.routing.holder_of(key, net.newest) != net.routing.holder_of(key, deed[1])]
                sent = net.sent
                net.take(deed)
                net.settle()
                self.assertEqual(net.sent, sent + sum(sizes))
                grown += net.sent > sent
        self.assertGreater(grown, 50)


class WatermarkTest(unittest.TestCase):

    def test_marks_that_are_sent_are_newer_and_newer(self):
        source = random.Random(706)
        for _ in range(40):
            net = random_net(source)
            last = None
            for deed in random_tape(source, net, most=20, words=("event", "raise")):
                for message in net.take(deed):
                    if message.body[0] == "mark" and message.to == 0:
                        self.assertTrue(newer(message.body[1:], last))
                        last = message.body[1:]
                        self.assertEqual(last, watermark_of(net.gate))


if __name__ == "__main__":
    unittest.main()
