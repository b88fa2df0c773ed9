"""Holders: points 52, 55 and 56."""

import itertools
import random
import unittest

from movedstates.crews import Crew
from movedstates.errors import BadRanking, BadYard
from movedstates.holders import holder, holders, present, walk
from movedstates.schemes import Scheme
from tests.owners import (bad_rankings, bad_yards, holder_by_the_words, random_crew, random_scheme, random_yard, random_yards,
                          rankings_of)

CREW = Crew([("k", "a"), ("l", "b"), ("m", "q"), ("n", "q")])


class PresentTest(unittest.TestCase):

    def test_lineups(self):
        ranking = [2, 3, 0, 1]
        self.assertEqual(present(ranking, (0, 1, 2, 3)), [2, 3, 0, 1])
        self.assertEqual(present(ranking, (0, 2)), [2, 0])
        self.assertEqual(present((1, 0, 3, 2), (3,)), [3])
        present(ranking, (0, 1, 2, 3)).clear()
        self.assertEqual(ranking, [2, 3, 0, 1])


class WalkTest(unittest.TestCase):

    def test_worker_by_worker(self):
        scheme = Scheme.read("take make q if seen make q >= 1\ntake make a if seen any >= 3")
        ranking = [2, 3, 1, 0]
        self.assertEqual(walk(CREW, scheme, ranking, (0, 1, 2, 3)), [(2, False), (3, True), (1, False), (0, True)])
        self.assertEqual(walk(CREW, scheme, tuple(ranking), (0, 1, 3)), [(3, False), (1, False), (0, False)])
        self.assertEqual(walk(CREW, Scheme([]), ranking, (1,)), [(1, False)])
        self.assertEqual(ranking, [2, 3, 1, 0])

    def test_workers_that_are_not_there_are_not_seen(self):
        scheme = Scheme.read("take any if seen make q >= 1")
        self.assertEqual(walk(CREW, scheme, [2, 0, 3, 1], (0, 1, 3)), [(0, False), (3, False), (1, True)])

    def test_against_the_words(self):
        source = random.Random(52)
        for _ in range(200):
            crew, scheme = random_crew(source), random_scheme(source)
            yard = random_yard(source, crew)
            ranking = source.choice(rankings_of(crew))
            lineup = [worker for worker in ranking if worker in yard]
            makes = [crew.make_of(worker) for worker in lineup]
            found = walk(crew, scheme, ranking, yard)
            self.assertEqual(found, [(worker, scheme.takes(makes[at], makes[:at])) for at, worker in enumerate(lineup)])
            self.assertTrue(all(type(step) is tuple and type(step[1]) is bool for step in found))


class HolderTest(unittest.TestCase):

    def test_where_nobody_is_taken(self):
        for text in ("", "take make z", "take any if seen any >= 4"):
            for ranking in rankings_of(CREW):
                self.assertEqual(holder(CREW, Scheme.read(text), ranking, (0, 1, 2, 3)), ranking[0])
                self.assertEqual(holder(CREW, Scheme.read(text), ranking, (1, 2)), [one for one in ranking if one in (1, 2)][0])

    def test_the_first_one_that_is_taken(self):
        self.assertEqual(holder(CREW, Scheme.read("take any"), [3, 1, 2, 0], (0, 1, 2)), 1)
        self.assertEqual(holder(CREW, Scheme.read("take make b"), [3, 0, 2, 1], (0, 1, 2)), 1)
        self.assertEqual(holder(CREW, Scheme.read("take any if seen any >= 1"), [3, 0, 2, 1], (0, 1, 2)), 2)

    def test_against_the_words(self):
        source = random.Random(56)
        for _ in range(300):
            crew, scheme = random_crew(source), random_scheme(source)
            yards = random_yards(source, crew)
            ranking = list(source.choice(rankings_of(crew)))
            wanted = [holder_by_the_words(crew, scheme, ranking, yard) for yard in yards]
            self.assertEqual(holders(crew, scheme, ranking, yards), wanted)
            self.assertEqual([holder(crew, scheme, tuple(ranking), yard) for yard in yards], wanted)

    def test_equal_lineups(self):
        source = random.Random(561)
        for _ in range(60):
            crew, scheme = random_crew(source), random_scheme(source)
            yard = random_yard(source, crew)
            for one, other in itertools.combinations(rankings_of(crew), 2):
                if present(one, yard) == present(other, yard):
                    self.assertEqual(holder(crew, scheme, one, yard), holder(crew, scheme, other, yard))

    def test_a_taken_holder_stays_when_workers_behind_it_come_or_go(self):
        source = random.Random(562)
        many = 0
        for _ in range(500):
            crew, scheme = random_crew(source), random_scheme(source)
            ranking = source.choice(rankings_of(crew))
            yard, other = random_yard(source, crew), random_yard(source, crew)
            found = holder(crew, scheme, ranking, yard)
            if (found, True) not in walk(crew, scheme, ranking, yard):
                continue
            place = ranking.index(found)
            changed = [worker for worker in yard if ranking.index(worker) <= place]
            changed += [worker for worker in other if ranking.index(worker) > place]
            self.assertEqual(holder(crew, scheme, ranking, tuple(sorted(changed))), found)
            many += tuple(sorted(changed)) != yard
        self.assertGreater(many, 50)

    def test_a_new_list(self):
        yards = [(0,), (0, 1)]
        found = holders(CREW, Scheme([]), [1, 0, 2, 3], yards)
        self.assertEqual([found, yards], [[0, 1], [(0,), (0, 1)]])

    def test_example(self):
        scheme = Scheme.read("take make a if seen make q < 1\ntake make b\ntake make a if seen make q >= 2")
        yards = [(0, 1), (0, 1, 2), (0, 1, 2, 3)]
        found = [scheme.rules[0], walk(CREW, scheme, [2, 3, 0, 1], (0, 1, 2)), holders(CREW, scheme, [2, 3, 0, 1], yards)]
        self.assertEqual(found, [(("make", "a"), ((("make", "q"), "<", 1),)), [(2, False), (0, False), (1, True)], [0, 1, 0]])


class ErrorsTest(unittest.TestCase):

    CALLS = (walk, holder, lambda crew, scheme, ranking, yard: holders(crew, scheme, ranking, [yard]),
             lambda crew, scheme, ranking, yard: holders(crew, scheme, ranking, [(0,), yard, (0,)]))

    def test_bad_rankings_come_first(self):
        for crew in (CREW, Crew([("k", "a")]), Crew([("k", "a"), ("l", "a")])):
            for ranking in bad_rankings(crew):
                for yard in [(0,)] + bad_yards(crew):
                    for call in self.CALLS:
                        with self.assertRaises(BadRanking):
                            call(crew, Scheme([]), ranking, yard)
                with self.assertRaises(BadRanking):
                    holders(crew, Scheme([]), ranking, [])

    def test_bad_yards(self):
        for crew in (CREW, Crew([("k", "a")]), Crew([("k", "a"), ("l", "a")])):
            for yard in bad_yards(crew):
                for call in self.CALLS:
                    with self.assertRaises(BadYard):
                        call(crew, Scheme.read("take any"), list(range(len(crew))), yard)

    def test_a_bad_yard_behind_good_ones(self):
        with self.assertRaises(BadYard):
            holders(CREW, Scheme([]), [0, 1, 2, 3], [(0,), (0, 1), (1, 0)])


if __name__ == "__main__":
    unittest.main()
