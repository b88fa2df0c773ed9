"""Listings of plans and desks, character by character."""

import random
import unittest

from movedstates.costs import loads_of
from movedstates.crews import Crew
from movedstates.desks import Desk
from movedstates.listings import desk_listing, plan_listing
from movedstates.plans import cheapest
from movedstates.schemes import Scheme
from tests.desks import RandomDeeds, random_desk, seen_desk
from tests.nets import ALL

CREW = Crew([("x", "m"), ("worker", "m"), ("longname", "n")])
SCHEME = Scheme([])


class PlanListingTest(unittest.TestCase):

    def plan(self, weight, start=(0,), goal=(1, 2), crew=CREW, **more):
        return cheapest(crew, SCHEME, [([2, 1, 0], weight)], start, goal, **more)

    def test_the_lines(self):
        plan = self.plan(5, most=3)
        self.assertEqual([plan.yards[0], plan.yards[-1], plan.cost], [(0,), (1, 2), 5])
        lines = plan_listing(CREW, plan)
        self.assertEqual([lines[0], lines[-1], len(lines)], ["     0  x", "     5  worker longname", len(plan.yards)])

    def test_each_yard(self):
        plan = self.plan(123, start=(0, 1, 2), goal=(0, 1))
        self.assertEqual(plan_listing(CREW, plan), ["     0  x worker longname", "   123  x worker"])
        self.assertEqual(plan_listing(CREW, self.plan(7, start=(1,), goal=(1,))), ["     0  worker"])

    def test_wide_numbers(self):
        for weight, column in ((99999, " 99999"), (100000, "100000"), (999999, "999999"), (1000000, "1000000"), (10 ** 24, "1" + "0" * 24)):
            plan = self.plan(weight, start=(0, 1, 2), goal=(0, 1))
            self.assertEqual(plan_listing(CREW, plan), ["     0  x worker longname", column + "  x worker"])

    def test_the_names_of_the_given_crew(self):
        crew = Crew([("a", "m"), ("b", "m"), ("c", "m")])
        self.assertEqual(plan_listing(crew, self.plan(1, start=(0, 1, 2), goal=(0, 1))), ["     0  a b c", "     1  a b"])

    def test_a_plan_on_the_way(self):
        plan = self.plan(40, start=(0,), goal=(2,), least=1)
        distances = dict(plan.table)
        names = ["x", "worker", "longname"]
        wanted = [f"{distances[yard]:6d}  " + " ".join(names[worker] for worker in yard) for yard in plan.yards]
        self.assertEqual(plan_listing(CREW, plan), wanted)
        self.assertEqual(len(plan.yards), 3)
        plan_listing(CREW, plan).clear()
        self.assertEqual(len(plan_listing(CREW, plan)), 3)


class DeskListingTest(unittest.TestCase):

    def desk(self, kind="list", sheet=("place", "forward", True), crew=CREW):
        return Desk(kind, gap=2, crew=crew, scheme=SCHEME, rankings={"a": [2, 1, 0], "b": [0, 1, 2]}, yard=(0,), sheet=sheet)

    def test_a_new_desk(self):
        self.assertEqual(desk_listing(self.desk()), ["x          0   0       0", "worker     0   0       0", "longname   0   0       0",
                                                     "under way 0, told 0, missing 0"])

    def test_live_holdings(self):
        desk = self.desk()
        for deed in (("event", "a", 1, 5), ("event", "b", 1, 5), ("event", "b", 9, 5), ("event", "b", 11, 5), ("arrive", 1), ("arrive", 2)):
            desk.take(deed)
        # A session of b is missing, and two letters are under way.
        self.assertEqual(desk_listing(desk), ["x          0   1      11", "worker     0   0       0", "longname   0   0       0",
                                              "under way 2, told 0, missing 1"])
        desk.settle()
        desk.resize((0, 2))
        desk.arrive(0)
        self.assertEqual(desk_listing(desk), ["x          1   1       7", "worker     0   0       0", "longname   0   0       0",
                                              "under way 3, told 1, missing 0"])
        desk.finish()
        self.assertEqual(desk_listing(desk), ["x          1   1       1", "worker     1   0       0", "longname   1   1       1",
                                              "under way 0, told 3, missing 0"])

    def test_heaps(self):
        desk = self.desk("bag", sheet=("count", "forward", False))
        for time in (1, 9):
            desk.event("a", time, 5)
        desk.arrive(1)
        self.assertEqual(desk_listing(desk)[0], "x          0   1       5")

    def test_wide_numbers(self):
        desk = self.desk()
        worker = desk.net.workers[1]
        for number, column in ((9, "   9"), (999, " 999"), (9999, "9999"), (10000, "10000"), (123456, "123456")):
            worker.number = number
            self.assertEqual(desk_listing(desk)[1], "worker  " + column + "   0       0")
            self.assertEqual(desk_listing(desk)[2], "longname   0   0       0")

    def test_wide_sizes(self):
        keys = [a + b for a in "abcdefghij" for b in "abcdefghij"]
        desk = Desk("list", gap=2, crew=CREW, scheme=SCHEME, rankings={key: [0, 1, 2] for key in keys}, yard=(0,))
        for key in keys:
            desk.event(key, 1, 5)
        desk.settle()
        self.assertEqual(desk_listing(desk)[0], "x          0 100     600")
        self.assertEqual(desk_listing(desk)[-1], "under way 0, told 0, missing 0")

    def test_a_name_of_eight_letters_and_one_letter(self):
        crew = Crew([("abcdefgh", "m"), ("i", "m"), ("zzzzzzz", "m")])
        self.assertEqual([line[:12] for line in desk_listing(self.desk(crew=crew))[:3]], ["abcdefgh   0", "i          0", "zzzzzzz    0"])

    def test_at_random(self):
        source = random.Random(1001)
        for row in ALL * 2:
            desk = random_desk(source, row, keys="ab")
            deeds = RandomDeeds(source, desk)
            for _ in range(30):
                desk.take(deeds.deed(len(desk.cuts)))
            before = seen_desk(desk)
            lines = desk_listing(desk)
            self.assertEqual(seen_desk(desk), before)
            wanted = []
            for (name, _), worker in zip(desk.net.routing.crew, desk.net.workers):
                size = sum(one.size for one in worker.live.values())
                wanted.append(name.ljust(8) + str(worker.number).rjust(4) + str(len(worker.live)).rjust(4) + str(size).rjust(8))
            wanted.append(f"under way {len(desk.net)}, told {len(desk.net.board)}, missing {len(desk.missing())}")
            self.assertEqual(lines, wanted)
            sizes = sum(int(line[16:]) for line in lines[:-1])
            self.assertEqual(sizes, sum(size for _, size in loads_of(desk.net)))


if __name__ == "__main__":
    unittest.main()
