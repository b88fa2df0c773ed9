"""Records of gates and workers: point 83, with 64 and 81."""

import random
import unittest

from movedstates.crews import Crew
from movedstates.cuts import CutNet
from movedstates.holdings import Holding
from movedstates.records import GateRecord, Record, first_record, record_gate, record_worker
from movedstates.schemes import Scheme
from tests.cutnets import random_cut_net, seen_gate_record, seen_record
from tests.nets import random_tape, seen_gate

CREW = Crew([("x", "m"), ("y", "m")])
RANKINGS = {"a": [1, 0], "b": [0, 1]}


def made_net(kind="list", sheet=("place", "forward", True)):
    return CutNet(kind, gap=2, crew=CREW, scheme=Scheme([]), rankings=RANKINGS, yard=(0,), sheet=sheet)


class WorkerTest(unittest.TestCase):

    def test_a_record(self):
        net = made_net()
        for deed in (("event", "a", 1, 7), ("event", "b", 1, 5), ("event", "b", 9, 6), ("raise", 3)):
            net.take(deed)
        net.settle()
        net.take(("yard", (0, 1)))
        net.arrive(0)
        first, second = record_worker(net, 0), record_worker(net, 1)
        self.assertEqual([type(first), type(second)], [Record, Record])
        watermark = (3, (("a", 1), ("b", 2)))
        self.assertEqual(seen_record(first), [1, (0, 1), watermark, {"b": Holding.of("list", [(1, 9, 6)], gap=2, base=1)},
                                              {"a": Holding.of("list", [(0, 1, 7)], gap=2)}, [("b", 1, 1, (5,))]])
        self.assertEqual(seen_record(second), [0, (0,), watermark, {}, {}, []])

    def test_a_record_stays_as_it_was(self):
        source = random.Random(830)
        for _ in range(60):
            net = random_cut_net(source)
            self.go_on(source, net)
            records = [record_worker(net, worker) for worker in range(len(net.workers))]
            gate = record_gate(net)
            before = [[seen_record(record) for record in records], seen_gate_record(gate)]
            for worker, record in zip(net.workers, records):
                self.assertEqual(seen_record(record)[:5], [worker.number, worker.yard, worker.watermark, worker.live, worker.kept])
                self.assertEqual(record.told, net.told_by[worker.worker])
            self.assertEqual(seen_gate_record(gate), [seen_gate(net.gate), net.yards, net.taken])
            self.go_on(source, net)
            self.assertEqual([[seen_record(record) for record in records], seen_gate_record(gate)], before)

    def go_on(self, source, net):
        for deed in random_tape(source, net, finish=0):
            net.take(deed)
            for _ in range(source.randint(0, 3)):
                if len(net):
                    net.arrive(source.randrange(len(net)))

    def test_a_record_is_apart_from_the_net(self):
        net = made_net()
        net.take(("event", "a", 1, 7))
        net.settle()
        record, gate = record_worker(net, 0), record_gate(net)
        for part in (record.live, record.kept, record.told, gate.yards):
            part.clear()
        gate.gate.finish()
        self.assertEqual([sorted(net.workers[0].live), net.yards, net.gate.finished], [["a"], [(0,)], False])

    def test_repeats_are_told_too(self):
        net = made_net()
        net.take(("event", "a", 1, 7))
        net.settle()
        for deed in (("yard", (0, 1)), ("raise", 9), ("yard", (0,))):
            net.take(deed)
            net.settle()
        self.assertEqual([record_worker(net, worker).told for worker in (0, 1)], [[("a", 1, 1, (7,))]] * 2)


class GateTest(unittest.TestCase):

    def test_a_record(self):
        net = made_net()
        self.assertEqual(seen_gate_record(record_gate(net)), [seen_gate(net.gate), [(0,)], 0])
        for deed in (("event", "a", 4, 7), ("event", "a", 1, 5), ("yard", (1,)), ("raise", 3), ("raise", 2)):
            net.take(deed)
        record = record_gate(net)
        self.assertIs(type(record), GateRecord)
        self.assertEqual([record.yards, record.taken, record.gate.late()], [[(0,), (1,)], 5, [("a", 1, 5)]])
        self.assertEqual(seen_gate(record.gate), seen_gate(net.gate))
        self.assertIsNot(record.gate, net.gate)


class FirstTest(unittest.TestCase):

    def test_first_record(self):
        for sheet in (("place", "forward", True), ("count", "forward", False)):
            net = made_net("bag", sheet=sheet)
            for deed in (("event", "a", 1, 7), ("yard", (0, 1)), ("raise", 3)):
                net.take(deed)
            net.settle()
            record = first_record(net)
            self.assertIs(type(record), Record)
            self.assertEqual(seen_record(record), [0, (0,), None, {}, {}, []])
            record.live["a"] = None
            record.told.append(None)
            self.assertEqual(seen_record(first_record(net)), [0, (0,), None, {}, {}, []])


if __name__ == "__main__":
    unittest.main()
