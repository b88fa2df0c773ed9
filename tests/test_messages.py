"""Messages, watermarks and routings: points 61 and 62, with 14 and 56."""

import random
import unittest

from movedstates.crews import Crew
from movedstates.errors import BadRanking, BadYard, UnknownName
from movedstates.gates import Gate
from movedstates.holders import holder
from movedstates.messages import Message, Routing, mark_for, newer
from movedstates.schemes import Scheme
from tests.owners import bad_rankings, bad_yards, random_crew, random_scheme, random_yard, rankings_of

CREW = Crew([("x", "m"), ("y", "n"), ("z", "m")])


class MessageTest(unittest.TestCase):

    def test_attributes(self):
        message = Message(2, 5, (0, 2), ("yard",))
        self.assertEqual([message.to, message.number, message.yard, message.body], [2, 5, (0, 2), ("yard",)])
        self.assertEqual([message.hops, message.cut_number], [0, 0])
        body = ("letter", "a", 0, 4, 7)
        message = Message(0, 1, (1,), body, hops=3, cut_number=4)
        self.assertEqual([message.to, message.number, message.yard, message.hops, message.cut_number], [0, 1, (1,), 3, 4])
        self.assertIs(message.body, body)
        self.assertEqual(Message(0, 1, (1,), ("mark", 4, (("a", 2),)), cut_number=9).body, ("mark", 4, (("a", 2),)))


class WatermarkTest(unittest.TestCase):

    def test_newer(self):
        none, low, high, last = None, (-4, ()), (3, (("a", 1),)), (None, (("a", 2),))
        ascending = [none, low, high, last]
        for at, one in enumerate(ascending):
            for place, other in enumerate(ascending):
                self.assertIs(newer(one, other), at > place)

    def test_equal_floors(self):
        for floor in (None, 0, -3):
            self.assertIs(newer((floor, ()), (floor, (("a", 1),))), False)
            self.assertIs(newer((floor, (("a", 1),)), (floor, ())), False)

    def test_marks(self):
        watermark = (7, (("a", 2), ("c", 5)))
        self.assertEqual([mark_for(watermark, key) for key in "abcd"], [(2, 7), (0, 7), (5, 7), (0, 7)])
        self.assertEqual([mark_for((None, (("b", 3),)), key) for key in "ab"], [(0, None), (3, None)])
        self.assertEqual(mark_for((0, ()), "a"), (0, 0))
        self.assertIsNone(mark_for(None, "a"))

    def test_marks_are_those_of_the_gate(self):
        source = random.Random(62)
        for _ in range(50):
            gate = Gate()
            watermark = None
            for _ in range(12):
                if source.random() < 0.7:
                    gate.event(source.choice("abc"), source.randint(0, 20), 1)
                elif gate.raise_floor(source.randint(0, 20)):
                    watermark = (gate.floor, tuple((key, gate.count_of(key)) for key in gate.known()))
                self.assertEqual([mark_for(watermark, key) for key in "abcd"], [gate.mark_of(key) for key in "abcd"])


class RoutingTest(unittest.TestCase):

    def test_attributes(self):
        scheme = Scheme.read("take make n")
        rankings = {"a": [2, 1, 0], "b": (0, 1, 2)}
        routing = Routing(CREW, scheme, rankings)
        self.assertEqual([routing.crew, routing.scheme], [CREW, scheme])
        self.assertEqual(routing.rankings, {"a": (2, 1, 0), "b": (0, 1, 2)})
        self.assertEqual(rankings, {"a": [2, 1, 0], "b": (0, 1, 2)})

    def test_own_copy(self):
        ranking = [2, 1, 0]
        rankings = {"a": ranking}
        routing = Routing(CREW, Scheme([]), rankings)
        ranking.reverse()
        rankings["b"] = [0, 1, 2]
        self.assertEqual(routing.rankings, {"a": (2, 1, 0)})
        self.assertEqual(routing.holder_of("a", (0, 1, 2)), 2)
        with self.assertRaises(UnknownName):
            routing.holder_of("b", (0, 1, 2))

    def test_holders(self):
        source = random.Random(56)
        for _ in range(100):
            crew, scheme = random_crew(source), random_scheme(source)
            rankings = {key: source.choice(rankings_of(crew)) for key in "abcd"}
            routing = Routing(crew, scheme, rankings)
            yard = random_yard(source, crew)
            for key in "abcd":
                self.assertEqual(routing.holder_of(key, yard), holder(crew, scheme, rankings[key], yard))

    def test_no_keys(self):
        self.assertEqual(Routing(CREW, Scheme([]), {}).rankings, {})

    def test_bad_rankings(self):
        for ranking in bad_rankings(CREW):
            for rankings in ({"a": ranking}, {"a": [0, 1, 2], "b": ranking}, {"a": ranking, "b": [0, 1, 2]}):
                with self.assertRaises(BadRanking):
                    Routing(CREW, Scheme([]), rankings)

    def test_unknown_names_and_then_bad_yards(self):
        routing = Routing(CREW, Scheme([]), {"a": [0, 1, 2]})
        for yard in [(0,)] + bad_yards(CREW):
            for key in ("b", "", "aa"):
                with self.assertRaises(UnknownName) as caught:
                    routing.holder_of(key, yard)
                self.assertEqual(caught.exception.name, key)
        for yard in bad_yards(CREW):
            with self.assertRaises(BadYard):
                routing.holder_of("a", yard)


if __name__ == "__main__":
    unittest.main()
