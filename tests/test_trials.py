"""Trials of a desk: point 100."""

import random
import unittest

from movedstates.crews import Crew
from movedstates.desks import Desk
from movedstates.errors import Finished, NoCut, UnknownName
from movedstates.schemes import Scheme
from movedstates.trials import Trial, tried
from tests.desks import DeskByTheWords, RandomDeeds, answers, random_desk, seen_desk
from tests.nets import ALL

CREW = Crew([("x", "m"), ("y", "m")])


class Stop(Exception):
    pass


def desk_of(kind="list", **more):
    return Desk(kind, gap=2, crew=CREW, scheme=Scheme([]), rankings={"a": [1, 0], "b": [0, 1]}, yard=(0,), **more)


def busy_desk():
    desk = desk_of()
    for deed in (("event", "a", 1, 5), ("cut",), ("event", "a", 2, 6), ("yard", (0, 1)), ("cut",), ("event", "b", 9, 7), ("raise", 4)):
        desk.take(deed)
    return desk


class TrialTest(unittest.TestCase):

    def state(self, desk):
        return [desk.net, desk.mirror, list(desk.cuts), list(desk.mirrors), seen_desk(desk)]

    def test_its_value_is_the_desk(self):
        desk = busy_desk()
        trial = desk.trial()
        self.assertIsInstance(trial, Trial)
        with trial as held:
            self.assertIs(held, desk)
        self.assertIsNot(desk.trial(), trial)

    def test_twins_in_the_block(self):
        desk = busy_desk()
        net, mirror, before = desk.net, desk.mirror, seen_desk(desk)
        with desk.trial():
            self.assertEqual(seen_desk(desk), before)
            self.assertIsNot(desk.net, net)
            self.assertIsNot(desk.mirror, mirror)
            desk.finish()
            desk.back(0)
            desk.cut()
            self.assertEqual([len(desk.cuts), len(desk.mirrors)], [2, 2])
        self.assertIs(desk.net, net)
        self.assertIs(desk.mirror, mirror)
        self.assertEqual(seen_desk(desk), before)

    def test_each_deed_in_a_trial(self):
        deeds = [("event", "a", 5, 1), ("event", "a", -9, 1), ("raise", 8), ("yard", (1,)), ("finish",), ("arrive", 1), ("settle",), ("cut",),
                 ("back", 0), ("back", 1), ("fall", 0), ("trial", [("finish",)])]
        for deed in deeds:
            desk = busy_desk()
            before = self.state(desk)
            with desk.trial() as held:
                held.take(deed)
            self.assertEqual(self.state(desk), before)
            desk.finish()
            self.assertEqual(seen_desk(desk), seen_desk(self.finished()))

    def finished(self):
        desk = busy_desk()
        desk.finish()
        return desk

    def test_an_error_goes_on_out_of_it(self):
        desk = busy_desk()
        before = self.state(desk)
        for error in (Stop, KeyError, ValueError):
            with self.assertRaises(error):
                with desk.trial():
                    desk.finish()
                    raise error()
            self.assertEqual(self.state(desk), before)
        with self.assertRaises(UnknownName):
            with desk.trial() as held:
                held.event("a", 9, 9)
                held.event("zz", 9, 9)
        self.assertEqual(self.state(desk), before)

    def test_a_block_that_is_left_by_other_ways(self):
        desk = busy_desk()
        before = self.state(desk)
        for _ in range(2):
            with desk.trial():
                desk.settle()
                continue
        for _ in range(2):
            with desk.trial():
                desk.settle()
                break

        def leave():
            with desk.trial() as held:
                return held.finish()
        self.assertGreater(leave(), 3)
        self.assertEqual(self.state(desk), before)

    def test_a_trial_in_a_trial(self):
        desk = busy_desk()
        before = self.state(desk)
        with desk.trial():
            desk.event("a", 9, 9)
            desk.cut()
            inner = self.state(desk)
            with desk.trial():
                desk.back(0)
                desk.finish()
                with self.assertRaises(Finished):
                    with desk.trial():
                        desk.event("a", 9, 9)
                self.assertEqual(len(desk.cuts), 1)
            self.assertEqual(self.state(desk), inner)
            desk.back(2)
        self.assertEqual(self.state(desk), before)

    def test_cuts_that_were_made_before(self):
        desk = busy_desk()
        with desk.trial():
            desk.back(0)
            desk.event("b", 40, 4)
            self.assertEqual(desk.cut(), 1)
        self.assertEqual([len(desk.cuts), len(desk.mirrors), desk.cut()], [2, 2, 2])
        desk.back(1)
        other = busy_desk()
        other.back(1)
        self.assertEqual(seen_desk(desk), seen_desk(other))

    def test_the_state_at_the_beginning_of_the_block(self):
        desk = busy_desk()
        trial = desk.trial()
        desk.event("a", 30, 3)
        desk.back(0)
        before = self.state(desk)
        with trial:
            desk.finish()
        self.assertEqual(self.state(desk), before)

    def test_methods_stand_in_the_class(self):
        for name in ("__enter__", "__exit__"):
            self.assertIn(name, vars(Trial))


class TriedTest(unittest.TestCase):

    def test_the_example(self):
        desk = Desk("set", gap=1, crew=Crew([("x", "m"), ("y", "m")]), scheme=Scheme([]), rankings={"a": [1, 0]}, yard=(0,))
        done = [desk.event("a", 4, 8), desk.settle(), desk.cost_of((1,))]
        self.assertEqual([done, tried(desk, [("yard", (0, 1)), ("settle",), ("finish",)]), len(desk.net), desk.missing()],
                         [[0, 1, 6], [1, 3, 2], 0, []])

    def test_no_deeds(self):
        desk = busy_desk()
        before = seen_desk(desk)
        self.assertEqual([tried(desk, []), seen_desk(desk)], [[], before])

    def test_an_error(self):
        desk = busy_desk()
        before = seen_desk(desk)
        with self.assertRaises(NoCut) as caught:
            tried(desk, [("cut",), ("back", 2), ("back", 3), ("finish",)])
        self.assertEqual([caught.exception.number, seen_desk(desk)], [3, before])

    def test_the_list_stays_as_it_was(self):
        deeds = [("settle",), ("trial", [("settle",)])]
        self.assertEqual([tried(busy_desk(), deeds), deeds], [[3, [0]], [("settle",), ("trial", [("settle",)])]])

    def test_against_a_twin(self):
        source = random.Random(1000)
        for row in ALL * 2:
            desk = random_desk(source, row, keys="ab")
            deeds = RandomDeeds(source, desk)
            for _ in range(15):
                desk.take(deeds.deed(len(desk.cuts)))
            before, twin = seen_desk(desk), desk.twin()
            model, later, returned = DeskByTheWords(desk), [], []
            for _ in range(12):
                later.append(deeds.deed(len(model.cuts)))
                returned.append(model.take(later[-1]))
            self.assertEqual(tried(desk, later), returned)
            self.assertEqual(seen_desk(desk), before)
            yards = desk.net.yards[:1]
            self.assertEqual(answers(desk, yards), answers(twin, yards))
            # Further deeds are done as without the trial.
            for deed in later:
                self.assertEqual(desk.take(deed), twin.take(deed))
            self.assertEqual(seen_desk(desk), seen_desk(twin))


if __name__ == "__main__":
    unittest.main()
