"""Accounts of a key: point 69, with 31, 36, 49, 50 and 70."""

import random
import unittest

from movedstates.accounts import account, carriers, front, owed
from movedstates.blocks import known_numbers
from movedstates.crews import Crew
from movedstates.errors import Unclear, UnknownName
from movedstates.heaps import Heap
from movedstates.holdings import Holding
from movedstates.kinds import KIND_NAMES
from movedstates.nets import Net
from movedstates.runs import Run
from movedstates.schemes import Scheme
from movedstates.sessions import cut_sessions
from tests.nets import (ALL, SAFE, account_by_the_words, front_by_the_words, plain_behind, random_net, random_tape, random_weaving,
                        seen_net)

CREW = Crew([("x", "m"), ("y", "m")])
RANKINGS = {"a": [1, 0], "b": [0, 1]}


def net_of(kind="list", *, gap=2, sheet=("place", "forward", False), again=False):
    return Net(kind, gap=gap, crew=CREW, scheme=Scheme([]), rankings=RANKINGS, yard=(0,), sheet=sheet, again=again)


def unclear_net():
    """One with the bags of the letters 0 and 1, and of 1 and 2, of which the second one is under way."""
    net = net_of("bag", again=True)
    for value in (7, 5, 7):
        net.take(("event", "a", 0, value))
    net.arrive(0)
    net.arrive(0, stays=True)
    net.take(("yard", (0, 1)))
    net.arrive(2)
    net.arrive(0)
    net.arrive(0)
    net.arrive(len(net) - 2)
    net.arrive(len(net) - 1)
    return net


class FrontTest(unittest.TestCase):

    def test_by_the_board(self):
        net = net_of()
        self.assertEqual([front(net, "a"), front(net, "b"), front(net, "zz"), front(net, "")], [0, 0, 0, 0])
        for time in (1, 2, 2, 9, 11, 30):
            net.take(("event", "a", time, 5))
        net.take(("event", "b", 0, 5))
        self.assertEqual(front(net, "a"), 0)
        net.settle()
        self.assertEqual([front(net, "a"), front(net, "b")], [5, 0])
        net.take(("finish",))
        net.settle()
        self.assertEqual([front(net, "a"), front(net, "b")], [6, 1])

    def test_a_letter_at_the_last_time_of_the_last_report(self):
        net = net_of(gap=0)
        for time in (1, 1, 1, 2):
            net.take(("event", "a", time, 5))
        for _ in range(3):
            net.arrive(0)
        self.assertEqual(front(net, "a"), 0)
        net.arrive(0)
        self.assertEqual(front(net, "a"), 3)


class AccountTest(unittest.TestCase):

    def test_of_nothing(self):
        for kind in KIND_NAMES:
            self.assertEqual(account(net_of(kind), "a"), Holding.empty(kind, gap=2))
            self.assertEqual(account(net_of(kind, sheet=("count", "forward", False)), "b"), Heap.empty(kind, gap=2))

    def test_letters_under_way_and_live_ones(self):
        for kind in KIND_NAMES:
            net = net_of(kind)
            for time, value in ((1, 7), (2, 5), (9, 7), (10, 6)):
                net.take(("event", "a", time, value))
            letters = net.gate.letters_of("a")
            whole = Holding.of(kind, letters, gap=2)
            self.assertEqual(account(net, "a"), whole)
            net.arrive(1)
            self.assertEqual(account(net, "a"), whole)
            net.take(("yard", (0, 1)))
            net.arrive(3)
            self.assertEqual(net.underway[-1].body[0], "holding")
            self.assertEqual(account(net, "a"), whole)
            self.assertEqual(account(net, "b"), Holding.empty(kind, gap=2))
            net.settle()
            self.assertEqual(account(net, "a"), Holding.of(kind, letters, gap=2, base=2))

    def test_it_is_a_new_answer_each_time(self):
        net = net_of()
        net.take(("event", "a", 1, 7))
        before = seen_net(net)
        for question in (account, front, owed, carriers):
            question(net, "a")
        self.assertEqual(seen_net(net), before)
        for question in (owed, carriers):
            question(net, "a").append(None)
            self.assertNotIn(None, question(net, "a"))

    def test_heaps_are_put_one_behind_another(self):
        net = net_of("list", sheet=("count", "forward", False))
        for value in (7, 5, 6, 8):
            net.take(("event", "a", 0, value))
        net.arrive(2)
        net.take(("yard", (0, 1)))
        net.arrive(3)
        net.take(("event", "a", 0, 9))
        net.arrive(len(net) - 1)
        # Worker 1 has 9; under way are 7, 5, 8 and the heap of 6.
        found = account(net, "a")
        self.assertEqual([found.number, found.top, found.blocks], [5, 5, ((0, 0, (9, 7, 5, 8, 6)),)])

    def test_live_holdings_by_the_workers_ascending(self):
        net = net_of("list", sheet=("count", "forward", True))
        net.take(("event", "a", 0, 7))
        net.settle()
        net.take(("yard", (0, 1)))
        net.take(("event", "a", 0, 5))
        net.arrive(len(net) - 1)
        self.assertEqual([sorted(worker.live) for worker in net.workers], [["a"], ["a"]])
        self.assertEqual(account(net, "a").blocks, ((0, 0, (7, 5)),))

    def test_kept_holdings_do_not_count(self):
        net = net_of("bag", sheet=("count", "forward", True))
        net.take(("event", "a", 0, 7))
        net.settle()
        net.take(("yard", (0, 1)))
        net.settle()
        self.assertEqual([sorted(worker.kept) for worker in net.workers], [["a"], []])
        self.assertEqual(account(net, "a").number, 1)

    def test_against_the_words(self):
        source = random.Random(690)
        for row in ALL * 3:
            one = Run(random_net(source, row), [])
            one.deeds = random_tape(source, one.net)
            for choice in random_weaving(source, 30):
                one.step(choice)
            for key in one.net.routing.rankings:
                self.assertEqual(front(one.net, key), front_by_the_words(one.net, key))
                try:
                    wanted = account_by_the_words(one.net, key)
                except Unclear:
                    with self.assertRaises(Unclear):
                        account(one.net, key)
                    continue
                self.assertEqual(account(one.net, key), wanted)

    def test_errors(self):
        for sheet in (("place", "forward", False), ("count", "forward", False)):
            net = net_of(sheet=sheet)
            for key in ("c", "", "aa", "A"):
                for question in (account, owed):
                    with self.assertRaises(UnknownName) as caught:
                        question(net, key)
                    self.assertEqual(caught.exception.name, key)

    def test_unclear(self):
        net = unclear_net()
        for question in (account, owed):
            with self.assertRaises(Unclear):
                question(net, "a")
        self.assertEqual([account(net, "b").blocks, net.unclear], [(), []])


class OwedTest(unittest.TestCase):

    def test_at_the_newest_mark_of_the_gate(self):
        for sheet in (("place", "forward", False), ("count", "forward", False)):
            net = net_of("bag", sheet=sheet)
            for time, value in ((1, 8), (2, 7), (9, 6)):
                net.take(("event", "a", time, value))
            self.assertEqual(owed(net, "a"), [("a", 1, 2, (7, 8))])
            net.take(("raise", 12))
            self.assertEqual(owed(net, "a"), [("a", 1, 2, (7, 8)), ("a", 9, 9, (6,))])
            self.assertEqual(owed(net, "b"), [])
            net.settle()
            self.assertEqual([owed(net, "a"), len(net.board)], [[], 2])
            net.take(("event", "a", 20, 5))
            self.assertEqual(owed(net, "a"), [])
            net.take(("finish",))
            self.assertEqual(owed(net, "a"), [("a", 20, 20, (5,))])

    def test_in_a_net_that_drops(self):
        net = net_of(sheet=("place", "drop", False))
        net.take(("event", "a", 1, 8))
        net.take(("yard", (0, 1)))
        net.arrive(1)
        net.arrive(0)
        net.take(("finish",))
        self.assertEqual([net.dropped, owed(net, "a")], [[(0, "a", (0, 1, 8))], []])


class CarriersTest(unittest.TestCase):

    def test_the_example(self):
        net = Net("list", gap=2, crew=CREW, scheme=Scheme([]), rankings={"a": [1, 0]}, yard=(0,))
        one = Run(net, [("event", "a", 0, 7), ("yard", (0, 1)), ("event", "a", 1, 5)])
        one.follow([0, 0, 0, 1, 0])
        self.assertEqual([account(one.net, "a").blocks, carriers(one.net, "a"), one.net.underway[2].hops],
                         [((0, 2, 0, 1, (7, 5)),), [(0, [("message", 2)]), (1, [("message", 1)])], 1])

    def test_live_ones_first_and_each_ascending(self):
        net = net_of("heads", again=True, sheet=("place", "forward", True))
        for time in (1, 2, 3, 4):
            net.take(("event", "a", time, 5))
        for place in (0, 1):
            net.arrive(place, stays=True)
        net.take(("yard", (0, 1)))
        net.take(("event", "a", 5, 5))
        net.arrive(len(net) - 1, stays=True)
        first = [("live", 0), ("message", 0)], [("live", 0), ("message", 1)], [("message", 2)], [("message", 3)]
        self.assertEqual(carriers(net, "a"), [*enumerate(first), (4, [("live", 1), ("message", 6)])])
        net.arrive(4)
        self.assertEqual(net.underway[6].body[0], "holding")
        first = [("message", 0), ("message", 6)], [("message", 1), ("message", 6)], [("message", 2)], [("message", 3)]
        self.assertEqual(carriers(net, "a"), [*enumerate(first), (4, [("live", 1), ("message", 5)])])

    def test_from_the_front_on(self):
        net = net_of()
        for time in (1, 2, 9, 10):
            net.take(("event", "a", time, 5))
        for _ in range(3):
            net.arrive(0)
        self.assertEqual(carriers(net, "a"), [(2, [("live", 0)]), (3, [("message", 0)])])
        net.take(("finish",))
        net.settle()
        self.assertEqual([carriers(net, "a"), carriers(net, "b"), carriers(net, "zz")], [[], [], []])

    def test_what_is_dropped_has_none(self):
        net = net_of(sheet=("place", "drop", False))
        net.take(("event", "a", 1, 8))
        net.take(("yard", (0, 1)))
        net.arrive(1)
        net.arrive(0)
        self.assertEqual(carriers(net, "a"), [(0, [])])

    def test_marks_are_no_letters(self):
        net = net_of()
        net.take(("event", "a", 1, 8))
        net.take(("raise", 0))
        self.assertEqual(carriers(net, "a"), [(0, [("message", 0)])])


class SafeTest(unittest.TestCase):

    def test_at_every_moment(self):
        source = random.Random(691)
        count = {"place": 0, "count": 0, "owed": 0, "fronts": 0, "split": 0}
        for row in SAFE * 12:
            one = Run(random_net(source, row, keys="ab"), [])
            one.deeds = random_tape(source, one.net)
            for choice in random_weaving(source, 60):
                if one.step(choice) is None:
                    break
                self.split_somewhere(source, one.net, count)
                plain = plain_behind(one.net, one.deeds[:one.at])
                for key in one.net.routing.rankings:
                    self.one_moment(one.net, key, plain, count)
        self.assertTrue(all(many > 30 for many in count.values()), count)

    def split_somewhere(self, source, net, count):
        places = [at for at, message in enumerate(net) if message.body[0] == "holding"]
        if places and net.sheet[0] == "place" and source.random() < 0.3:
            net.split_at(source.choice(places))
            count["split"] += 1

    def one_moment(self, net, key, plain, count):
        letters, start = net.gate.letters_of(key), front(net, key)
        found = account(net, key)
        count[net.sheet[0]] += 1
        count["fronts"] += 0 < start < len(letters)
        if net.sheet[0] == "place":
            self.assertEqual(found, Holding.of(net.kind, letters, gap=net.gap, base=start))
        else:
            self.assertEqual([found.number, found.top], [len(letters), len(letters)])
            sessions = [session[2:] for session in cut_sessions(net.kind, letters, gap=net.gap) if session[0] >= start]
            self.assertEqual(found.blocks, tuple(sessions))
        due = owed(net, key)
        count["owed"] += len(due)
        self.assertEqual(net.board.reports_of(key) + due, plain.board.reports_of(key))
        if net.sheet[0] == "place":
            self.check_carriers(net, key, start, len(letters))

    def check_carriers(self, net, key, start, many):
        found = carriers(net, key)
        self.assertEqual([number for number, _ in found], list(range(start, many)))
        for number, where in found:
            self.assertEqual(where, self.carriers_by_the_words(net, key, number))
            if not net.again and not net.sheet[2] and net.kind not in ("first", "last", "ends"):
                self.assertEqual(len(where), 1)
            self.assertGreater(len(where), 0)

    def carriers_by_the_words(self, net, key, number):
        found = [("live", worker.worker) for worker in net.workers for block in worker.live.get(key, ())
                 if number in known_numbers(block)]
        for at, message in enumerate(net):
            word, *rest = message.body
            if word == "letter" and rest[:2] == [key, number]:
                found.append(("message", at))
            if word == "holding" and rest[0] == key and any(number in known_numbers(block) for block in rest[1]):
                found.append(("message", at))
        return found


if __name__ == "__main__":
    unittest.main()
