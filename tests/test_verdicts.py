"""Verdicts: points 57 to 60."""

import itertools
import random
import unittest

from movedstates.crews import Crew
from movedstates.errors import BadYard
from movedstates.holders import holders
from movedstates.schemes import Scheme
from movedstates.tallies import moved_counts
from movedstates.verdicts import Verdict, moving, needless, next_node, returning, settled, start_node
from tests.owners import bad_yards, does, random_crew, random_scheme, random_yard, random_yards, rankings_of

QUESTIONS = {"moving": moving, "returning": returning, "needless": needless}


def node_by_the_words(crew, scheme, yards, beginning):
    """Point 58."""
    held, firsts = [], []
    for yard in yards:
        lineup = [worker for worker in beginning if worker in yard]
        makes = [crew.make_of(worker) for worker in lineup]
        taken = [worker for at, worker in enumerate(lineup) if scheme.takes(makes[at], makes[:at])]
        held.append(taken[0] if taken else -1)
        firsts.append(lineup[0] if lineup else -1)
    return tuple(sorted(beginning)), tuple(held), tuple(firsts)


def beginnings_of(crew):
    return [beginning for many in range(len(crew) + 1) for beginning in itertools.permutations(range(len(crew)), many)]


def cases(seed, many, most=5):
    source = random.Random(seed)
    for _ in range(many):
        crew = random_crew(source, most)
        yield crew, random_scheme(source), random_yards(source, crew)


class NodesTest(unittest.TestCase):

    def test_the_empty_beginning(self):
        for yards in ([(0,)], [(0,), (0, 1)], [(0,)] * 6):
            nobody = (-1,) * len(yards)
            self.assertEqual(start_node(yards), ((), nobody, nobody))

    def test_node_by_node(self):
        for crew, scheme, yards in cases(58, 60):
            for beginning in beginnings_of(crew):
                node = start_node(yards)
                for worker in beginning:
                    node = next_node(crew, scheme, yards, node, worker)
                self.assertEqual(node, node_by_the_words(crew, scheme, yards, beginning))

    def test_the_node_and_the_worker_alone_count(self):
        many = 0
        for crew, scheme, yards in cases(581, 60):
            behind = {}
            for beginning in beginnings_of(crew):
                node = node_by_the_words(crew, scheme, yards, beginning)
                for worker in range(len(crew)):
                    if worker not in beginning:
                        longer = node_by_the_words(crew, scheme, yards, beginning + (worker,))
                        many += (node, worker) in behind
                        self.assertEqual(behind.setdefault((node, worker), longer), longer)
        self.assertGreater(many, 100)

    def test_settled_holders(self):
        self.assertEqual(settled(((0, 1, 2), (-1, 2, -1), (0, 1, 2))), (0, 2, 2))
        for crew, scheme, yards in cases(582, 60):
            for ranking in rankings_of(crew):
                node = node_by_the_words(crew, scheme, yards, ranking)
                self.assertEqual(list(settled(node)), holders(crew, scheme, ranking, yards))
                self.assertIs(type(settled(node)), tuple)


class VerdictTest(unittest.TestCase):

    def check(self, crew, scheme, yards):
        found = {}
        nodes = sorted({node_by_the_words(crew, scheme, yards, beginning) for beginning in beginnings_of(crew)})
        held = [(ranking, holders(crew, scheme, ranking, yards)) for ranking in rankings_of(crew)]
        for question, ask in QUESTIONS.items():
            kept = list(yards)
            verdict = ask(crew, scheme, yards)
            self.assertIs(type(verdict), Verdict)
            failing = [list(ranking) for ranking, one in held if does(question, yards, one)]
            self.assertIs(verdict.holds, not failing)
            self.assertIs(bool(verdict), not failing)
            self.assertEqual(verdict.ranking, failing[0] if failing else None)
            self.assertEqual(verdict.table, [] if failing else nodes)
            self.assertEqual(yards, kept)
            found[question] = verdict.holds
        return found

    def test_against_all_rankings(self):
        count = {question: [0, 0] for question in QUESTIONS}
        for crew, scheme, yards in cases(59, 250):
            for question, holds in self.check(crew, scheme, yards).items():
                count[question][holds] += 1
        self.assertTrue(all(min(pair) > 10 for pair in count.values()), count)

    def test_crews_and_lists_of_each_length(self):
        source = random.Random(591)
        for workers in range(1, 6):
            crew = Crew([(name, source.choice("ab")) for name in "vwxyz"[:workers]])
            for length in range(1, 7):
                yards = [random_yard(source, crew) for _ in range(length)]
                for text in ("", "take any", "take make a", "take any if seen make a >= 1"):
                    self.check(crew, Scheme.read(text), yards)

    def test_six_workers(self):
        crew = Crew([(name, make) for name, make in zip("uvwxyz", "aabbcc")])
        yards = [(0, 1, 2, 3, 4, 5), (0, 2, 3), (1, 2, 3, 4), (0, 1, 2, 3, 4, 5), (2, 3), (2, 3, 5)]
        for text in ("take any", "take make b if seen make a < 1\ntake make c"):
            self.check(crew, Scheme.read(text), yards)

    def test_one_yard(self):
        crew = Crew([("x", "m"), ("y", "n")])
        for scheme in (Scheme([]), Scheme.read("take make n")):
            for yards in ([(0, 1)], [(1,)], [(0, 1)] * 6):
                self.assertEqual(self.check(crew, scheme, yards), {"moving": True, "returning": True, "needless": True})

    def test_closed_tables(self):
        """What point 59 says of a table, without any look at all rankings."""
        for crew, scheme, yards in cases(592, 100):
            for question, ask in QUESTIONS.items():
                verdict = ask(crew, scheme, yards)
                if verdict:
                    self.assertIn(start_node(yards), verdict.table)
                    for node in verdict.table:
                        rest = [worker for worker in range(len(crew)) if worker not in node[0]]
                        for worker in rest:
                            self.assertIn(next_node(crew, scheme, yards, node, worker), verdict.table)
                        if not rest:
                            self.assertFalse(does(question, yards, settled(node)))

    def test_a_move_that_is_needed_at_each_end(self):
        crew = Crew([("x", "m"), ("y", "m"), ("z", "m")])
        any_worker = Scheme.read("take any")
        self.assertEqual(self.check(crew, any_worker, [(0,), (0, 1)]), {"moving": False, "returning": True, "needless": True})
        self.assertEqual(self.check(crew, any_worker, [(0, 1), (1,)]), {"moving": False, "returning": True, "needless": True})
        self.assertEqual(self.check(crew, any_worker, [(0,), (0, 1), (0,)]), {"moving": False, "returning": False, "needless": True})
        second = Scheme.read("take any if seen any >= 1")
        self.assertEqual(self.check(crew, second, [(0, 1), (0, 1, 2)]), {"moving": False, "returning": True, "needless": False})

    def test_example(self):
        found = moving(Crew([("k", "a"), ("l", "a")]), Scheme([]), [(0,), (0,)]).table
        self.assertEqual(found, [((), (-1, -1), (-1, -1)), ((0,), (-1, -1), (0, 0)), ((0, 1), (-1, -1), (0, 0)), ((1,), (-1, -1), (-1, -1))])

    def test_bad_yards(self):
        for crew in (Crew([("k", "a")]), Crew([("k", "a"), ("l", "a"), ("m", "b")])):
            for yard in bad_yards(crew):
                for yards in ([yard], [(0,), yard], [yard, (0,)]):
                    for ask in QUESTIONS.values():
                        with self.assertRaises(BadYard):
                            ask(crew, Scheme([]), yards)

    def test_methods_stand_in_the_class(self):
        self.assertIsInstance(vars(Verdict)["holds"], property)
        self.assertIn("__bool__", vars(Verdict))


class FactsTest(unittest.TestCase):
    """Point 60."""

    def test_without_bounds_no_move_is_needless(self):
        source = random.Random(60)
        for _ in range(200):
            crew = random_crew(source)
            scheme = Scheme([(source.choice([("any",), ("make", "a"), ("make", "b")]), ()) for _ in range(source.randint(0, 3))])
            self.assertTrue(needless(crew, scheme, random_yards(source, crew)))

    def test_lists_that_only_grow_or_shrink(self):
        source = random.Random(601)
        many = 0
        for _ in range(300):
            crew, scheme = random_crew(source), random_scheme(source)
            yards = [random_yard(source, crew)]
            for _ in range(source.randint(1, 5)):
                yards.append(tuple(sorted({*yards[-1], *random_yard(source, crew)})))
            for one in (yards, yards[::-1]):
                if needless(crew, scheme, one):
                    self.assertTrue(returning(crew, scheme, one))
                    many += not moving(crew, scheme, one)
        self.assertGreater(many, 50)

    def test_by_the_union_of_both_yards(self):
        source = random.Random(602)
        many = 0
        for _ in range(300):
            crew, scheme = random_crew(source), random_scheme(source)
            one, other = random_yard(source, crew), random_yard(source, crew)
            both = tuple(sorted({*one, *other}))
            if needless(crew, scheme, [one, both, other]):
                many += 1
                for ranking in rankings_of(crew):
                    first, middle, last = holders(crew, scheme, ranking, [one, both, other])
                    self.assertEqual((first != middle) + (middle != last), first != last)
        self.assertGreater(many, 50)

    def test_the_number_of_rankings_that_move(self):
        source = random.Random(603)
        for _ in range(300):
            crew, scheme = random_crew(source), random_scheme(source)
            after = random_yard(source, crew)
            before = tuple(worker for worker in after if source.random() < 0.7)
            if not before:
                continue
            held = [holders(crew, scheme, ranking, [before, after]) for ranking in rankings_of(crew)]
            needed = sum(new not in before for _, new in held)
            idle = sum(does("needless", [before, after], one) for one in held)
            self.assertEqual(moved_counts(crew, scheme, before, after), (needed + idle, needed, idle))
            shares = {sum(new == worker for _, new in held) for worker in after}
            if len(shares) == 1:
                self.assertEqual(needed * len(after), len(held) * (len(after) - len(before)))

    def test_take_any_moves_as_few_as_can_be(self):
        crew = Crew([(name, "m") for name in "vwxyz"])
        for after in ((0, 1), (0, 1, 2), (0, 2, 3, 4), (0, 1, 2, 3, 4)):
            for size in range(1, len(after)):
                for before in itertools.combinations(after, size):
                    moved = 120 * (len(after) - size) // len(after)
                    self.assertEqual(moved_counts(crew, Scheme.read("take any"), before, after), (moved, moved, 0))


if __name__ == "__main__":
    unittest.main()
