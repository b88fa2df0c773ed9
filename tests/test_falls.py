"""Falls of workers: points 88, 89 and 90."""

import random
import unittest

from movedstates.crews import Crew
from movedstates.cuts import CutNet
from movedstates.errors import BadSheet, CutOpen
from movedstates.falls import fall
from movedstates.holdings import Holding
from movedstates.kinds import KIND_NAMES
from movedstates.records import first_record, record_worker
from movedstates.runs import Run
from movedstates.schemes import Scheme
from tests.cutnets import known_by, random_cut_net, seen_cut_net, seen_record
from tests.nets import SHEETS, plain_behind, random_tape, random_weaving, seen_message
from tests.workers import state

CREW = Crew([("x", "m"), ("y", "m"), ("z", "n")])
RANKINGS = {"a": [1, 0, 2], "b": [0, 1, 2]}
FORWARD = [(kind, ("place", "forward", keeps), again) for kind in KIND_NAMES for keeps in (False, True) for again in (False, True)]


def net_of(kind="list", *, gap=2, yard=(0,), sheet=("place", "forward", False), again=False):
    return CutNet(kind, gap=gap, crew=CREW, scheme=Scheme([]), rankings=RANKINGS, yard=yard, sheet=sheet, again=again)


def event(key, time, value=5):
    return "event", key, time, value


def holding(letters, kind="list", base=0):
    return Holding.of(kind, letters, gap=2, base=base)


class ThrownAwayTest(unittest.TestCase):

    def test_all_messages_to_the_worker(self):
        net = net_of()
        for deed in (event("a", 1), ("raise", 0), ("yard", (0, 1)), event("a", 2), event("b", 3)):
            net.take(deed)
        others = [message for message in net if message.to != 0]
        fall(net, 0)
        self.assertTrue(all(one is other for one, other in zip(net, others)))
        rest = net.underway[len(others):]
        self.assertEqual([seen_message(message) for message in rest],
                         [[0, 1, (0, 1), 0, 0, ("yard",)], [0, 1, (0, 1), 0, 0, ("mark", 0, (("a", 1),))],
                          [1, 1, (0, 1), 0, 0, ("letter", "a", 0, 1, 5)], [0, 1, (0, 1), 0, 0, ("letter", "b", 0, 3, 5)]])

    def test_the_worker_is_as_at_first(self):
        net = net_of(sheet=("place", "forward", True))
        for deed in (event("a", 1), event("b", 1), ("raise", 9), event("a", 12), event("b", 12), ("yard", (0, 1))):
            net.take(deed)
            net.settle()
        net.begin_cut()
        net.settle()
        told = [list(one) for one in net.told_by]
        workers = [net.workers[1], net.workers[2]]
        before = [list(map(repr, state(worker))) for worker in workers]
        fall(net, 0)
        self.assertEqual(state(net.workers[0]), [0, (0,), None, {}, {}])
        self.assertEqual([net.cut_numbers, net.told_by, len(net.cuts)], [[1, 1, 1], told, 1])
        self.assertGreater(len(told[0]), 0)
        self.assertEqual([list(map(repr, state(worker))) for worker in workers], before)
        self.assertEqual({message.cut_number for message in net}, {1})

    def test_an_older_record(self):
        net = net_of(sheet=("place", "forward", True))
        for deed in (event("a", 1), event("b", 1), ("raise", 0), event("b", 2), ("yard", (0, 1))):
            net.take(deed)
            net.settle()
        record = record_worker(net, 0)
        seen = seen_record(record)
        for deed in (event("b", 3), ("raise", 9), ("yard", (1,))):
            net.take(deed)
            net.settle()
        told = [list(one) for one in net.told_by]
        self.assertEqual(fall(net, 0, record), [])
        self.assertEqual(state(net.workers[0]), seen[:5])
        self.assertEqual([net.told_by, sorted(seen[3]), sorted(seen[4])], [told, ["b"], ["a"]])
        net.settle()
        net.take(("finish",))
        net.settle()
        # The record stays as it was.
        self.assertEqual(seen_record(record), seen)
        self.assertEqual(net.board.rows(), [("a", 1, 1, (5,)), ("b", 1, 3, (5, 5, 5))])


class SentTest(unittest.TestCase):

    def test_order(self):
        net = net_of()
        for deed in (event("b", 1, 7), event("a", 1), event("a", 2, 6), ("raise", 1), event("b", 3)):
            net.take(deed)
            net.settle()
        found = fall(net, 0)
        self.assertEqual(found, [("a", (0, 1, 5)), ("a", (1, 2, 6)), ("b", (0, 1, 7)), ("b", (1, 3, 5))])
        self.assertEqual([(message.to, message.body) for message in net],
                         [(0, ("yard",)), (0, ("mark", 1, (("a", 2), ("b", 1))))] + [(0, ("letter", key, *letter)) for key, letter in found])

    def test_without_a_watermark_and_behind_the_finish(self):
        net = net_of()
        fall(net, 2)
        self.assertEqual([seen_message(message) for message in net], [[2, 0, (0,), 0, 0, ("yard",)]])
        net.take(event("a", 1))
        net.take(("raise", 8))
        net.take(event("a", 9))
        net.take(("finish",))
        net.settle()
        fall(net, 2)
        self.assertEqual([message.body for message in net], [("yard",), ("mark", None, (("a", 2),))])

    def test_letters_go_to_the_holder_by_the_newest_yard(self):
        net = net_of()
        net.take(event("a", 1))
        net.settle()
        net.take(("yard", (0, 1)))
        self.assertEqual(fall(net, 0), [("a", (0, 1, 5))])
        self.assertEqual(seen_message(net.underway[-1]), [1, 1, (0, 1), 0, 0, ("letter", "a", 0, 1, 5)])

    def test_what_is_under_way_to_others_is_not_sent(self):
        net = net_of()
        for deed in (("yard", (0, 1)), event("a", 1), event("b", 1)):
            net.take(deed)
        self.assertEqual(fall(net, 0), [("b", (0, 1, 5))])
        self.assertEqual(fall(net, 0), [("b", (0, 1, 5))])
        self.assertEqual(fall(net, 2), [])
        self.assertEqual(fall(net, 1), [("a", (0, 1, 5))])

    def test_a_number_counts_for_its_own_key_only(self):
        net = net_of(yard=(0, 1))
        net.take(event("a", 1))
        net.take(event("b", 1))
        # The letter 0 of b is under way to worker 0, that of a was to worker 1.
        self.assertEqual(fall(net, 1), [("a", (0, 1, 5))])
        net.settle()
        self.assertEqual(fall(net, 1), [("a", (0, 1, 5))])

    def test_what_is_live_elsewhere_or_in_a_holding_under_way_is_not_sent(self):
        net = net_of(sheet=("place", "forward", True))
        for deed in (event("a", 1), event("a", 2)):
            net.take(deed)
        net.settle()
        net.take(("yard", (0, 1)))
        net.arrive(0)
        # Worker 0 has kept both letters, and they are under way to worker 1.
        self.assertEqual(fall(net, 0), [])
        self.assertEqual([net.workers[0].kept, net.underway[2].body[0]], [{}, "holding"])
        self.assertEqual(fall(net, 1), [("a", (0, 1, 5)), ("a", (1, 2, 5))])
        net.settle()
        self.assertEqual(fall(net, 0), [])
        net = net_of(sheet=("place", "forward", True))
        net.take(event("a", 1))
        net.settle()
        net.take(("yard", (0, 1)))
        net.arrive(0)
        # What is kept does not count.
        self.assertEqual([fall(net, 1), sorted(net.workers[0].kept)], [[("a", (0, 1, 5))], ["a"]])

    def test_letters_below_a_base_elsewhere(self):
        net = net_of()
        for deed in (event("a", 1), event("a", 20), ("yard", (0, 1))):
            net.take(deed)
            net.settle()
        self.assertEqual(net.workers[1].live, {"a": holding([(1, 20, 5)], base=1)})
        net.take(("yard", (0,)))
        net.arrive(1)
        # The holding with the base 1 is under way, and then thrown away: all letters are sent again.
        self.assertEqual(fall(net, 2), [])
        self.assertEqual(fall(net, 0), [("a", (0, 1, 5)), ("a", (1, 20, 5))])
        net.settle()
        self.assertEqual([len(net.board), net.board.repeats], [1, 1])

    def test_it_is_a_new_list(self):
        net = net_of()
        net.take(event("a", 1))
        fall(net, 0).clear()
        self.assertEqual(len(net), 2)


class ErrorsTest(unittest.TestCase):

    def test_bad_sheet_then_cut_open(self):
        for sheet in SHEETS:
            for opened in (False, True):
                net = net_of(sheet=sheet)
                net.take(event("a", 1))
                if opened:
                    net.begin_cut()
                before = seen_cut_net(net)
                for record in (None, first_record(net)):
                    if sheet[0] == "count" or opened:
                        with self.assertRaises(BadSheet if sheet[0] == "count" else CutOpen):
                            fall(net, 0, record)
                        self.assertEqual(seen_cut_net(net), before)
                if sheet[0] == "place" and not opened:
                    self.assertEqual(fall(net, 0), [("a", (0, 1, 5))])


class WordsTest(unittest.TestCase):

    def fall_by_the_words(self, net, worker, record):
        """What is under way behind the fall, and the letters that are sent."""
        left = [message for message in net if message.to != worker]
        live = [one.live for one in net.workers if one.worker != worker] + [record.live if record else {}]
        newest, gate = len(net.yards) - 1, net.gate
        base = [newest, net.newest, 0, net.cut_number]
        sent = [[worker, *base, ("yard",)]]
        if gate.finished:
            sent.append([worker, *base, ("mark", None, tuple((key, gate.count_of(key)) for key in gate.known()))])
        elif gate.floor is not None:
            counts = [(key, gate.mark_of(key)[0]) for key in gate.known()]
            sent.append([worker, *base, ("mark", gate.floor, tuple(row for row in counts if row[1]))])
        letters = []
        for key in gate.known():
            for letter in gate.letters_of(key):
                held = any(letter[0] in one[key] for one in live if key in one)
                flying = any(message.body[0] == "holding" and message.body[1] == key and letter[0] in message.body[2]
                             or message.body == ("letter", key, *letter) for message in left)
                if not held and not flying:
                    letters.append((key, letter))
        sent += [[net.routing.holder_of(key, net.newest), *base, ("letter", key, *letter)] for key, letter in letters]
        return [seen_message(message) for message in left] + sent, letters

    def test_behind_every_kind_of_deed(self):
        source = random.Random(880)
        count = {"letters": 0, "with a record": 0, "below a base": 0}
        for row in FORWARD * 5:
            one = Run(random_cut_net(source, row, keys="ab"), [])
            one.deeds = random_tape(source, one.net, most=18)
            records = [[] for _ in one.net.workers]
            for choice in random_weaving(source, 50):
                for at, known in enumerate(records):
                    known.append(record_worker(one.net, at))
                one.step(choice)
                if source.random() < 0.2:
                    worker = source.randrange(len(records))
                    self.one_fall(one.net, worker, source.choice(records[worker] + [None] * len(records[worker])), count)
        self.assertTrue(all(many > 50 for many in count.values()), count)

    def one_fall(self, net, worker, record, count):
        wanted, letters = self.fall_by_the_words(net, worker, record)
        bases = {key: max([one.live[key].base for one in net.workers if one.worker != worker and key in one.live], default=0)
                 for key in net.routing.rankings}
        self.assertEqual(fall(net, worker, record), letters)
        self.assertEqual([seen_message(message) for message in net], wanted)
        self.assertEqual(state(net.workers[worker]), seen_record(record or first_record(net))[:5])
        # Point 90.
        self.assertTrue(all(letter[0] >= bases[key] for key, letter in letters))
        count["letters"] += len(letters)
        count["with a record"] += record is not None
        count["below a base"] += sum(bases.values()) > 0


class PlainRunTest(unittest.TestCase):

    def test_the_board_at_the_end(self):
        source = random.Random(890)
        falls = 0
        for row in FORWARD * 8:
            kind, sheet, again = row
            if kind == "bag" and (again or sheet[2]):
                continue
            net = random_cut_net(source, row, keys="ab")
            tape = random_tape(source, net, most=18)
            one = Run(net, tape)
            records = [[] for _ in net.workers]
            for choice in random_weaving(source, 60):
                for at, known in enumerate(records):
                    known.append(record_worker(one.net, at))
                one.step(choice)
                if source.random() < 0.15:
                    worker = source.randrange(len(records))
                    record = None if kind == "bag" or source.random() < 0.4 else source.choice(records[worker])
                    fall(one.net, worker, record)
                    falls += 1
            one.end()
            self.assertEqual(one.net.board, plain_behind(net, one.deeds).board)
            if kind == "bag":
                self.assertEqual(one.net.unclear, [])
        self.assertGreater(falls, 300)

    def test_with_an_older_record_something_can_be_unclear_under_bag(self):
        source = random.Random(891)
        unclear = 0
        for _ in range(1500):
            net = random_cut_net(source, ("bag", ("place", "forward", False), False), keys="a", least=2)
            deeds = [event("a", 0, source.choice((5, 6))) for _ in range(6)] + [("yard", (0,)), ("yard", (0, 1)), ("yard", (1,))] * 2
            source.shuffle(deeds)
            one = Run(net, deeds)
            records = [[] for _ in net.workers]
            for choice in random_weaving(source, 60):
                for at, known in enumerate(records):
                    known.append(record_worker(one.net, at))
                one.step(choice)
                if source.random() < 0.15:
                    worker = source.randrange(len(records))
                    fall(one.net, worker, source.choice(records[worker]))
            one.end()
            unclear += len(one.net.unclear) > 0
            if unclear:
                break
        self.assertGreater(unclear, 0)

    def test_nothing_that_is_known_elsewhere_is_lost(self):
        source = random.Random(892)
        for row in FORWARD * 2:
            one = Run(random_cut_net(source, row, keys="ab"), [])
            one.deeds = random_tape(source, one.net)
            one.follow(random_weaving(source))
            net = one.net
            fall(net, source.randrange(len(net.workers)))
            for key in net.gate.known():
                known = [number for worker in net.workers for number in known_by(worker.live.get(key, ()))]
                base = max([worker.live[key].base for worker in net.workers if key in worker.live], default=0)
                for message in net:
                    if message.body[0] == "letter" and message.body[1] == key:
                        known.append(message.body[2])
                    if message.body[0] == "holding" and message.body[1] == key:
                        known += known_by(message.body[2])
                        base = max(base, message.body[2].base)
                self.assertEqual([at for at in range(base, net.gate.count_of(key)) if at not in known], [])


if __name__ == "__main__":
    unittest.main()
