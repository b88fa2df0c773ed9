"""Plans: points 92, 93 and 94."""

import itertools
import random
import unittest

from movedstates.costs import list_cost, step_cost
from movedstates.crews import Crew
from movedstates.errors import BadRanking, BadYard, NoWay
from movedstates.plans import Plan, cheapest
from movedstates.schemes import Scheme
from movedstates.verdicts import needless
from tests.nets import random_crew
from tests.owners import bad_rankings, bad_yards, does, holder_by_the_words, random_loads, random_scheme, random_yard

CREW = Crew([("x", "m"), ("y", "m"), ("z", "m")])
SCHEME = Scheme.read("take any if seen any >= 1")


def yards_with(crew, least):
    return sorted(yard for many in range(max(least, 1), len(crew) + 1) for yard in itertools.combinations(range(len(crew)), many))


def differing(one, other):
    return len(set(one) ^ set(other))


def allowed_lists(yards, start, goal, most):
    """All allowed lists without a yard twice; a longer one costs no less."""
    def behind(beginning):
        if beginning[-1] == goal:
            yield beginning
            return
        for yard in yards:
            if yard not in beginning and differing(beginning[-1], yard) <= most:
                yield from behind(beginning + [yard])
    return list(behind([start]))


def distances_by_rounds(crew, scheme, loads, start, most, least):
    """The least cost of lists with more and more yards, until nothing changes."""
    yards = yards_with(crew, least)
    known = {start: 0}
    while True:
        longer = dict(known)
        for one in known:
            for other in yards:
                if 1 <= differing(one, other) <= most:
                    cost = known[one] + step_cost(crew, scheme, loads, one, other)
                    longer[other] = min(longer.get(other, cost), cost)
        if longer == known:
            return sorted(known.items())
        known = longer


def random_case(random, most_workers=3):
    """Often with a scheme under which workers that come ahead of the holder take it away."""
    crew = random_crew(random, random.choice((1, most_workers, most_workers)), most_workers)
    texts = ("take any if seen any >= 1", "take any if seen any >= 2", "take any if seen make a >= 1\ntake make b if seen make c >= 1", "")
    scheme = random.choice((Scheme.read(random.choice(texts)), random_scheme(random)))
    loads = random_loads(random, crew, 6)
    most, least = random.randint(1, 3), random.choice((1, 1, 2))
    yards = yards_with(crew, least)
    if not yards:
        return random_case(random, most_workers)
    return crew, scheme, loads, random.choice(yards), random.choice(yards), most, least


class PlanTest(unittest.TestCase):

    def check(self, crew, scheme, loads, start, goal, most, least):
        plan = cheapest(crew, scheme, loads, start, goal, most=most, least=least)
        self.assertIs(type(plan), Plan)
        self.assertEqual([plan.yards[0], plan.yards[-1]], [start, goal])
        self.assertTrue(all(len(yard) >= least and yard in yards_with(crew, 1) for yard in plan.yards))
        self.assertTrue(all(1 <= differing(one, other) <= most for one, other in zip(plan.yards, plan.yards[1:])))
        self.assertEqual(list_cost(crew, scheme, loads, plan.yards), plan.cost)
        self.assertEqual([yard for yard, _ in plan.table], yards_with(crew, least))
        self.assertEqual(dict(plan.table)[goal], plan.cost)
        if start == goal:
            self.assertEqual([plan.yards, plan.cost], [[start], 0])
        return plan

    def test_the_example(self):
        plan = cheapest(CREW, SCHEME, [([0, 1, 2], 5)], (0, 2), (1, 2), least=2)
        self.assertEqual([plan.cost, plan.table], [10, [((0, 1), 5), ((0, 1, 2), 5), ((0, 2), 0), ((1, 2), 10)]])
        self.assertEqual(plan.yards, [(0, 2), (0, 1, 2), (1, 2)])

    def test_all_allowed_lists_one_by_one(self):
        source = random.Random(92)
        choices = 0
        for _ in range(500):
            crew, scheme, loads, start, goal, most, least = random_case(source)
            plan = self.check(crew, scheme, loads, start, goal, most, least)
            yards = yards_with(crew, least)
            steps = {(one, other): step_cost(crew, scheme, loads, one, other) for one in yards for other in yards}
            for yard, distance in plan.table:
                lists = allowed_lists(yards, start, yard, most)
                costs = [sum(steps[step] for step in zip(one, one[1:])) for one in lists]
                self.assertEqual(distance, min(costs))
            # Whether the plan is cheaper than another list that is as short.
            rows = [one for one in allowed_lists(yards, start, goal, most) if len(one) == len(plan.yards)]
            choices += any(list_cost(crew, scheme, loads, one) > plan.cost for one in rows)
        self.assertGreater(choices, 10)

    def test_more_workers(self):
        source = random.Random(920)
        for _ in range(25):
            case = random_case(source, 5)
            crew, scheme, loads, start, _, most, least = case
            self.assertEqual(self.check(*case).table, distances_by_rounds(crew, scheme, loads, start, most, least))

    def test_six_workers_and_many_loads(self):
        source = random.Random(921)
        crew = Crew([(name, source.choice("ab")) for name in "uvwxyz"])
        scheme = Scheme.read("take make a if seen make b >= 1\ntake make b if seen any >= 2")
        loads = [(source.sample(range(6), 6), source.randint(0, 10 ** 6)) for _ in range(800)]
        plan = self.check(crew, scheme, loads, (0, 1), (4, 5), 1, 1)
        self.check_table(crew, scheme, loads[:3], cheapest(crew, scheme, loads[:3], (0, 1), (4, 5), most=2), (0, 1), 2)
        self.assertEqual(len(plan.table), 63)

    def check_table(self, crew, scheme, loads, plan, start, most):
        """Point 93."""
        table = dict(plan.table)
        self.assertEqual(table[start], 0)
        for yard, distance in plan.table:
            near = [(table[other], step_cost(crew, scheme, loads, other, yard)) for other in table if 1 <= differing(yard, other) <= most]
            self.assertTrue(all(distance <= known + cost for known, cost in near))
            if yard != start:
                self.assertTrue(any(distance == known + cost for known, cost in near))

    def test_tables(self):
        source = random.Random(93)
        for _ in range(60):
            crew, scheme, loads, start, goal, most, least = random_case(source, 4)
            plan = cheapest(crew, scheme, loads, start, goal, most=most, least=least)
            self.check_table(crew, scheme, loads, plan, start, most)

    def test_start_is_goal(self):
        for yard in yards_with(CREW, 1):
            plan = self.check(CREW, SCHEME, [([0, 1, 2], 5)], yard, yard, 1, 1)
            self.assertEqual([plan.yards, plan.cost, dict(plan.table)[yard]], [[yard], 0, 0])

    def test_one_worker(self):
        plan = self.check(Crew([("x", "m")]), Scheme([]), [([0], 3)], (0,), (0,), 1, 1)
        self.assertEqual(plan.table, [((0,), 0)])

    def test_weights(self):
        for weight in (0, 1, 10 ** 24):
            plan = self.check(CREW, SCHEME, [([0, 1, 2], weight)], (0, 2), (1, 2), 1, 2)
            self.assertEqual(plan.cost, 2 * weight)
        self.assertEqual(self.check(CREW, SCHEME, [], (0,), (2,), 1, 1).cost, 0)
        one = cheapest(CREW, SCHEME, [([0, 1, 2], 2), ((0, 1, 2), 3), ([1, 0, 2], 0)], (0, 2), (1, 2), least=2)
        self.assertEqual(one.cost, 10)

    def test_most_and_least_at_their_edges(self):
        loads = [([0, 1, 2], 5)]
        self.assertEqual(self.check(CREW, SCHEME, loads, (0,), (1, 2), 3, 1).yards[0], (0,))
        self.assertEqual(self.check(CREW, SCHEME, loads, (0, 2), (1, 2), 2, 2).cost, step_cost(CREW, SCHEME, loads, (0, 2), (1, 2)))
        self.assertEqual(self.check(CREW, SCHEME, loads, (0, 1, 2), (0, 1, 2), 1, 3).table, [((0, 1, 2), 0)])
        for most in (6, 99):
            self.check(CREW, SCHEME, loads, (0,), (1, 2), most, 1)
        default = cheapest(CREW, SCHEME, loads, (0,), (1, 2))
        self.assertEqual(default.table, cheapest(CREW, SCHEME, loads, (0,), (1, 2), most=1, least=1).table)

    def test_arguments_stay_as_they_were(self):
        loads = [([0, 1, 2], 5), ((2, 1, 0), 1)]
        plan = cheapest(CREW, SCHEME, loads, (0,), (1, 2))
        self.assertEqual(loads, [([0, 1, 2], 5), ((2, 1, 0), 1)])
        plan.yards.clear()
        plan.table.clear()
        self.assertEqual(len(cheapest(CREW, SCHEME, loads, (0,), (1, 2)).table), 7)

    def test_errors_in_their_order(self):
        good = ([0, 1, 2], 1)
        for yard in bad_yards(CREW):
            for start, goal in ((yard, (0,)), ((0,), yard), (yard, yard)):
                for loads in ([], [good], [([], 1)]):
                    with self.assertRaises(BadYard):
                        cheapest(CREW, SCHEME, loads, start, goal, least=4)
        for ranking in bad_rankings(CREW):
            for loads in ([(ranking, 0)], [good, (ranking, 1)]):
                with self.assertRaises(BadRanking):
                    cheapest(CREW, SCHEME, loads, (0,), (0, 1), least=2)
        for start, goal, least in (((0,), (0, 1), 2), ((0, 1), (0,), 2), ((0,), (0,), 2), ((0, 1, 2), (0, 1, 2), 4), ((0, 1), (0, 1, 2), 3)):
            with self.assertRaises(NoWay):
                cheapest(CREW, SCHEME, [good], start, goal, most=6, least=least)
            with self.assertRaises(NoWay):
                cheapest(CREW, SCHEME, [good], start, goal, least=least)


class ComparedTest(unittest.TestCase):

    def test_the_step_and_the_plan(self):
        source = random.Random(94)
        equal = above = 0
        for _ in range(250):
            crew, scheme, loads, start, goal, most, least = random_case(source, 4)
            step = step_cost(crew, scheme, loads, start, goal)
            yards = [start] + [random_yard(source, crew) for _ in range(source.randint(0, 4))] + [goal]
            self.assertLessEqual(step, list_cost(crew, scheme, loads, yards))
            plan = cheapest(crew, scheme, loads, start, goal, most=most, least=least)
            self.assertGreaterEqual(plan.cost, step)
            above += plan.cost > step
            if most >= differing(start, goal):
                self.assertEqual(plan.cost, step)
                equal += step > 0
        self.assertGreater(min(equal, above), 3)

    def test_the_way_over_all_workers_of_both(self):
        source = random.Random(940)
        count = {"list": 0, "plan": 0}
        for _ in range(400):
            crew, scheme, loads, start, goal, most, least = random_case(source, 4)
            both = tuple(sorted({*start, *goal}))
            yards = [start, both, goal]
            helds = [[holder_by_the_words(crew, scheme, ranking, yard) for yard in yards] for ranking, _ in loads]
            if any(does("needless", yards, held) for held in helds):
                continue
            step = step_cost(crew, scheme, loads, start, goal)
            self.assertEqual(list_cost(crew, scheme, loads, yards), step)
            count["list"] += step > 0
            if most >= max(len(set(goal) - set(start)), len(set(start) - set(goal))):
                self.assertEqual(cheapest(crew, scheme, loads, start, goal, most=most, least=least).cost, step)
                count["plan"] += step > 0
        self.assertTrue(all(many > 20 for many in count.values()), count)

    def test_the_opposite_order(self):
        source = random.Random(941)
        for _ in range(100):
            crew, scheme, loads, start, goal, most, least = random_case(source, 4)
            yards = [random_yard(source, crew) for _ in range(source.randint(0, 6))]
            self.assertEqual(list_cost(crew, scheme, loads, yards), list_cost(crew, scheme, loads, yards[::-1]))
            there = cheapest(crew, scheme, loads, start, goal, most=most, least=least)
            back = cheapest(crew, scheme, loads, goal, start, most=most, least=least)
            self.assertEqual(there.cost, back.cost)

    def test_a_greater_most_and_a_lesser_least(self):
        source = random.Random(942)
        cheaper = 0
        for _ in range(120):
            crew, scheme, loads, start, goal, most, least = random_case(source, 4)
            plan = cheapest(crew, scheme, loads, start, goal, most=most, least=least)
            for more, less in ((most + 1, least), (most, 1), (most + 2, 1)):
                other = cheapest(crew, scheme, loads, start, goal, most=more, least=less)
                self.assertLessEqual(other.cost, plan.cost)
                cheaper += other.cost < plan.cost
        self.assertGreater(cheaper, 3)

    def test_no_needless_move_of_any_ranking(self):
        source = random.Random(943)
        crew = Crew([(name, "m") for name in "wxyz"])
        scheme = Scheme.read("take any")
        for _ in range(30):
            start, goal = random_yard(source, crew), random_yard(source, crew)
            self.assertTrue(needless(crew, scheme, [start, tuple(sorted({*start, *goal})), goal]).holds)
            loads = random_loads(source, crew)
            most = max(1, len(set(goal) - set(start)), len(set(start) - set(goal)))
            self.assertEqual(cheapest(crew, scheme, loads, start, goal, most=most).cost, step_cost(crew, scheme, loads, start, goal))


if __name__ == "__main__":
    unittest.main()
