"""Tallies: points 57 and 59, with 60."""

import math
import random
import unittest

from movedstates.crews import Crew
from movedstates.errors import BadYard
from movedstates.holders import holders
from movedstates.schemes import Scheme
from movedstates.tallies import moved_counts, tally
from tests.owners import bad_yards, random_crew, random_scheme, random_yard, random_yards, rankings_of, step_kind


class TallyTest(unittest.TestCase):

    def test_against_all_rankings(self):
        source = random.Random(59)
        for _ in range(250):
            crew, scheme = random_crew(source), random_scheme(source)
            yards = random_yards(source, crew)
            counts = {}
            for ranking in rankings_of(crew):
                held = tuple(holders(crew, scheme, ranking, yards))
                counts[held] = counts.get(held, 0) + 1
            kept = list(yards)
            found = tally(crew, scheme, yards)
            self.assertEqual(found, sorted(counts.items()))
            self.assertEqual(sum(count for _, count in found), math.factorial(len(crew)))
            self.assertTrue(all(type(row) is tuple and count >= 1 for row in found for count in row[1:]))
            self.assertEqual(yards, kept)

    def test_all_rankings_of_six_workers(self):
        crew = Crew([(name, "m") for name in "uvwxyz"])
        found = tally(crew, Scheme.read("take any"), [(0, 1, 2, 3, 4, 5), (0, 1, 2)])
        self.assertEqual(sum(count for _, count in found), 720)
        self.assertEqual(found[:2], [((0, 0), 120), ((1, 1), 120)])
        self.assertEqual(found[3:], [((worker, holder), 40) for worker in (3, 4, 5) for holder in (0, 1, 2)])

    def test_one_worker(self):
        crew = Crew([("x", "m")])
        self.assertEqual(tally(crew, Scheme([]), [(0,), (0,)]), [((0, 0), 1)])
        self.assertEqual(moved_counts(crew, Scheme([]), (0,), (0,)), (0, 0, 0))

    def test_bad_yards(self):
        for crew in (Crew([("k", "a")]), Crew([("k", "a"), ("l", "a"), ("m", "b")])):
            for yard in bad_yards(crew):
                for ask in (lambda: tally(crew, Scheme([]), [yard]), lambda: tally(crew, Scheme([]), [(0,), yard]),
                            lambda: moved_counts(crew, Scheme([]), yard, (0,)), lambda: moved_counts(crew, Scheme([]), (0,), yard)):
                    with self.assertRaises(BadYard):
                        ask()


class MovedCountsTest(unittest.TestCase):

    def test_each_kind_of_move(self):
        crew = Crew([("x", "m"), ("y", "m"), ("z", "m")])
        self.assertEqual(moved_counts(crew, Scheme.read("take any"), (0,), (0, 1)), (3, 3, 0))
        self.assertEqual(moved_counts(crew, Scheme.read("take any"), (0,), (1, 2)), (6, 6, 0))
        second = Scheme.read("take any if seen any >= 1")
        self.assertEqual(moved_counts(crew, second, (0, 1), (0, 1, 2)), (4, 2, 2))
        self.assertEqual(moved_counts(crew, second, (0, 1, 2), (0, 1)), (4, 2, 2))

    def test_against_all_rankings(self):
        source = random.Random(57)
        idle = 0
        for _ in range(300):
            crew, scheme = random_crew(source), random_scheme(source)
            before, after = random_yard(source, crew), random_yard(source, crew)
            steps = []
            for ranking in rankings_of(crew):
                old, new = holders(crew, scheme, ranking, [before, after])
                steps.append(step_kind(before, old, after, new))
            wanted = (len(steps) - steps.count(None), steps.count(False), steps.count(True))
            self.assertEqual(moved_counts(crew, scheme, before, after), wanted)
            idle += wanted[2] > 0
        self.assertGreater(idle, 10)


if __name__ == "__main__":
    unittest.main()
