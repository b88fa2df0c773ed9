"""Costs of steps and lists, and the loads of a net: points 91 and 95, with 57."""

import random
import unittest

from movedstates.costs import list_cost, loads_of, moved_keys, step_cost
from movedstates.crews import Crew
from movedstates.cuts import CutNet
from movedstates.errors import BadRanking, BadYard
from movedstates.heaps import Heap
from movedstates.holdings import Holding
from movedstates.schemes import Scheme
from tests.cutnets import random_cut_net
from tests.nets import ALL, random_crew, random_net, random_tape, seen_net
from tests.owners import bad_rankings, bad_yards, holder_by_the_words, random_loads, random_scheme, random_yard

CREW = Crew([("x", "m"), ("y", "m"), ("z", "n")])
SCHEME = Scheme([])


def cost_by_the_words(crew, scheme, loads, yards):
    cost = 0
    for before, after in zip(yards, yards[1:]):
        for ranking, weight in loads:
            if holder_by_the_words(crew, scheme, ranking, before) != holder_by_the_words(crew, scheme, ranking, after):
                cost += weight
    return cost


class CostTest(unittest.TestCase):

    def test_lists_of_no_yard_of_one_and_of_many(self):
        loads = [([1, 0, 2], 5), ((2, 1, 0), 7), ([0, 1, 2], 11)]
        for yards, wanted in (([], 0), ([(0,)], 0), ([(0, 1, 2)], 0), ([(0,), (0,)], 0), ([(0,), (0, 1)], 12), ([(0,), (0, 1), (0,)], 24),
                              ([(0,), (2,)], 23), ([(0, 1), (0, 2)], 12), ([(0,), (0, 1)] * 50, 12 * 99)):
            self.assertEqual(list_cost(CREW, SCHEME, loads, yards), wanted)
            if len(yards) == 2:
                self.assertEqual(step_cost(CREW, SCHEME, loads, *yards), wanted)

    def test_weights(self):
        for weight in (0, 1, 10 ** 24):
            self.assertEqual(step_cost(CREW, SCHEME, [([1, 0, 2], weight)], (0,), (0, 1)), weight)
        self.assertEqual(step_cost(CREW, SCHEME, [], (0,), (1,)), 0)
        self.assertEqual(step_cost(CREW, SCHEME, [([1, 0, 2], 3)] * 800, (0,), (1,)), 2400)

    def test_at_random(self):
        source = random.Random(91)
        above = 0
        for _ in range(300):
            crew, scheme = random_crew(source, 1, 5), random_scheme(source)
            loads = random_loads(source, crew)
            yards = [random_yard(source, crew) for _ in range(source.randint(0, 8))]
            kept = [[(list(ranking), weight) for ranking, weight in loads], list(yards)]
            wanted = cost_by_the_words(crew, scheme, loads, yards)
            self.assertEqual(list_cost(crew, scheme, loads, yards), wanted)
            self.assertEqual(sum(step_cost(crew, scheme, loads, *step) for step in zip(yards, yards[1:])), wanted)
            self.assertEqual([[(list(ranking), weight) for ranking, weight in loads], yards], kept)
            above += wanted > 0
        self.assertGreater(above, 100)

    def test_errors_in_their_order(self):
        good = ([0, 1, 2], 1)
        for yard in bad_yards(CREW):
            for ranking in bad_rankings(CREW):
                for loads in ([], [good], [(ranking, 1), good], [good, (ranking, 1)]):
                    for yards in ([yard], [(0,), yard], [yard, (0,)], [(0,), (1,), yard]):
                        with self.assertRaises(BadYard):
                            list_cost(CREW, SCHEME, loads, yards)
                    for before, after in ((yard, (0,)), ((0,), yard)):
                        with self.assertRaises(BadYard):
                            step_cost(CREW, SCHEME, loads, before, after)
        for ranking in bad_rankings(CREW):
            for loads in ([(ranking, 1)], [good, (ranking, 0)], [(ranking, 0), good]):
                for yards in ([], [(0,)], [(0,), (1,)]):
                    with self.assertRaises(BadRanking):
                        list_cost(CREW, SCHEME, loads, yards)
                with self.assertRaises(BadRanking):
                    step_cost(CREW, SCHEME, loads, (0,), (0,))


class LoadsTest(unittest.TestCase):

    def net_of(self, kind="list", sheet=("place", "forward", True)):
        rankings = {"c": [1, 0, 2], "b": [0, 1, 2], "a": (2, 1, 0)}
        return CutNet(kind, gap=2, crew=CREW, scheme=SCHEME, rankings=rankings, yard=(0,), sheet=sheet)

    def test_holdings(self):
        net = self.net_of()
        self.assertEqual(loads_of(net), [])
        for key, time in (("c", 1), ("c", 9), ("a", 1)):
            net.take(("event", key, time, 5))
        self.assertEqual(loads_of(net), [])
        net.arrive(1)
        size = Holding.of("list", [(1, 9, 5)], gap=2).size
        self.assertEqual(loads_of(net), [((1, 0, 2), size)])
        net.arrive(1)
        self.assertEqual(loads_of(net), [((2, 1, 0), size), ((1, 0, 2), size)])
        net.take(("finish",))
        net.settle()
        # Live holdings without blocks count.
        self.assertEqual(loads_of(net), [((2, 1, 0), 1), ((1, 0, 2), 1)])

    def test_several_live_holdings_of_one_key(self):
        net = self.net_of()
        net.take(("event", "c", 1, 5))
        net.settle()
        net.take(("yard", (0, 1)))
        net.take(("event", "c", 2, 5))
        net.arrive(len(net) - 1)
        sizes = [worker.live["c"].size for worker in net.workers[:2]]
        self.assertEqual([sizes, loads_of(net)], [[6, 6], [((1, 0, 2), 12)]])
        net.arrive(0)
        # What is kept or under way does not count.
        self.assertEqual(loads_of(net), [((1, 0, 2), 6)])

    def test_heaps(self):
        net = self.net_of("bag", sheet=("count", "forward", False))
        for time in (1, 9):
            net.take(("event", "b", time, 5))
        net.settle()
        heap = net.workers[0].live["b"]
        self.assertEqual([type(heap), loads_of(net)], [Heap, [((0, 1, 2), heap.size)]])

    def test_rankings_are_tuples_in_a_new_list(self):
        net = self.net_of()
        net.take(("event", "c", 1, 5))
        net.settle()
        before = seen_net(net)
        loads = loads_of(net)
        self.assertIs(type(loads[0][0]), tuple)
        loads.clear()
        moved_keys(net, (0, 1)).clear()
        self.assertEqual([len(loads_of(net)), moved_keys(net, (0, 1)), seen_net(net)], [1, ["c"], before])


class MovedKeysTest(unittest.TestCase):

    def test_keys_with_a_live_holding(self):
        rankings = {"a": [1, 0, 2], "b": [0, 1, 2], "c": [1, 2, 0], "d": [1, 0, 2]}
        net = CutNet("list", gap=2, crew=CREW, scheme=SCHEME, rankings=rankings, yard=(0,))
        for key in "dcba":
            net.take(("event", key, 1, 5))
        for _ in range(3):
            net.arrive(0)
        self.assertEqual([moved_keys(net, yard) for yard in ((0,), (0, 1), (2,), (0, 2))], [[], ["c", "d"], ["b", "c", "d"], ["c"]])
        net.arrive(0)
        self.assertEqual(moved_keys(net, (0, 1)), ["a", "c", "d"])
        net.take(("yard", (1,)))
        self.assertEqual(moved_keys(net, (0, 1)), ["b"])

    def test_bad_yards(self):
        net = CutNet("list", gap=2, crew=CREW, scheme=SCHEME, rankings={}, yard=(0,))
        for yard in bad_yards(CREW):
            with self.assertRaises(BadYard):
                moved_keys(net, yard)
        self.assertEqual(moved_keys(net, (1,)), [])


class SentTest(unittest.TestCase):

    def test_what_a_yard_then_sends(self):
        source = random.Random(95)
        moved = 0
        for row in ALL * 4:
            net = source.choice((random_net, random_cut_net))(source, row)
            for deed in random_tape(source, net, words=("event", "event", "event", "raise", "yard"), finish=0):
                if deed[0] != "yard":
                    net.take(deed)
                    continue
                net.settle()
                keys = moved_keys(net, deed[1])
                cost = step_cost(net.routing.crew, net.routing.scheme, loads_of(net), net.newest, deed[1])
                before = {key: worker.worker for worker in net.workers for key in worker.live}
                sent = net.sent
                net.take(deed)
                net.settle()
                after = {key: worker.worker for worker in net.workers for key in worker.live}
                self.assertEqual(net.sent, sent + cost)
                self.assertEqual(keys, [key for key in sorted(before) if before[key] != after[key]])
                moved += len(keys)
        self.assertGreater(moved, 100)


if __name__ == "__main__":
    unittest.main()
