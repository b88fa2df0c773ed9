"""Runs along weavings: point 67, with 68 to 70."""

import random
import unittest

from movedstates.crews import Crew
from movedstates.errors import BadYard, Finished, UnknownName
from movedstates.nets import Net
from movedstates.runs import Run, run
from movedstates.schemes import Scheme
from tests.nets import ALL, plain_behind, random_net, random_tape, random_weaving, seen_net

CREW = Crew([("x", "m"), ("y", "m")])
RANKINGS = {"a": [1, 0], "b": [0, 1]}
TAPE = [("event", "a", 0, 7), ("yard", (0, 1)), ("event", "a", 1, 5)]


def net_of(kind="list", *, gap=2, sheet=("place", "forward", False), again=False):
    return Net(kind, gap=gap, crew=CREW, scheme=Scheme([]), rankings=RANKINGS, yard=(0,), sheet=sheet, again=again)


def steps_by_the_words(one):
    steps = [("read",)] if one.at < len(one.deeds) else []
    steps += [("arrive", place) for place in range(len(one.net))]
    return steps + ([("stay", place) for place in range(len(one.net))] if one.net.again else [])


class MadeTest(unittest.TestCase):

    def test_at_first(self):
        net = net_of()
        one = Run(net, TAPE)
        self.assertEqual([one.deeds, one.at, one.weaving, one.done], [TAPE, 0, [], False])
        self.assertEqual(seen_net(one.net), seen_net(net))
        self.assertIs(Run(net, []).done, True)

    def test_the_net_and_the_list_stay_as_they_were(self):
        net = net_of()
        net.take(("event", "b", 3, 3))
        before = seen_net(net)
        tape = list(TAPE)
        one = Run(net, tape)
        one.follow([0, 1, 0, 2, 0])
        one.end()
        weaving = [3, 0, 1, 0]
        run(net, tape, weaving)
        self.assertEqual([seen_net(net), tape, weaving], [before, TAPE, [3, 0, 1, 0]])
        other = Run(net, tape)
        tape.clear()
        net.settle()
        self.assertEqual([len(other.deeds), seen_net(other.net)], [3, before])

    def test_methods_stand_in_the_class(self):
        for name in ("__init__", "done", "steps", "step", "follow", "end"):
            self.assertIn(name, vars(Run))


class StepTest(unittest.TestCase):

    def test_the_example(self):
        one = Run(net_of(), TAPE)
        one.follow([0, 0, 0, 1, 0])
        self.assertEqual([one.at, one.weaving, one.done], [3, [0, 0, 0, 1, 0], False])
        self.assertEqual(one.net.underway[2].body, ("letter", "a", 0, 0, 7))

    def test_steps_in_order(self):
        for again in (False, True):
            one = Run(net_of(again=again), TAPE)
            self.assertEqual(list(one.steps()), [("read",)])
            self.assertEqual(one.step(5), ("read",))
            stays = [("stay", 0)] if again else []
            self.assertEqual(list(one.steps()), [("read",), ("arrive", 0)] + stays)
            one.step(0)
            stays = [("stay", place) for place in range(3)] if again else []
            self.assertEqual(list(one.steps()), [("read",)] + [("arrive", place) for place in range(3)] + stays)
            one.step(0)
            stays = [("stay", place) for place in range(4)] if again else []
            self.assertEqual(list(one.steps()), [("arrive", place) for place in range(4)] + stays)

    def test_each_step(self):
        one = Run(net_of(again=True), TAPE)
        other = net_of(again=True)
        for choice, step in ((0, ("read",)), (2, ("stay", 0)), (4, ("arrive", 0)), (0, ("read",)), (2, ("arrive", 1)),
                             (5, ("stay", 0)), (10 ** 20, ("read",))):
            self.assertEqual(one.step(choice), step)
            if step[0] == "read":
                other.take(TAPE[one.at - 1])
            else:
                other.arrive(step[1], stays=step[0] == "stay")
            self.assertEqual(seen_net(one.net), seen_net(other))

    def test_choices_above_the_number_of_steps(self):
        one = Run(net_of(), TAPE)
        self.assertEqual([one.step(7), one.step(7), one.step(7)], [("read",), ("arrive", 0), ("read",)])
        self.assertEqual(one.weaving, [0, 1, 0])
        self.assertEqual([one.step(4), one.step(8), one.step(10 ** 30)], [("arrive", 0), ("arrive", 1), ("read",)])
        self.assertEqual(one.weaving, [0, 1, 0, 1, 2, 0])

    def test_a_choice_where_no_step_is_possible(self):
        for again in (False, True):
            one = Run(net_of(again=again), [])
            before = seen_net(one.net)
            self.assertEqual([one.step(0), one.step(9), one.weaving, one.done], [None, None, [], True])
            one.follow([1, 2, 3])
            self.assertEqual([one.weaving, seen_net(one.net), list(one.steps())], [[], before, []])

    def test_its_own_weaving_can_be_followed_once_more(self):
        one = Run(net_of(), TAPE)
        one.follow([0, 1])
        one.follow(one.weaving)
        self.assertEqual([one.weaving, one.at, len(one.net)], [[0, 1, 0, 1], 2, 2])

    def test_done(self):
        one = Run(net_of(), TAPE[:1])
        self.assertIs(one.done, False)
        one.step(0)
        self.assertIs(one.done, False)
        one.step(0)
        self.assertIs(one.done, True)

    def test_against_the_words(self):
        source = random.Random(67)
        for row in ALL:
            one = Run(random_net(source, row), [])
            one.deeds = random_tape(source, one.net)
            model, weaving = one.net.twin(), []
            for choice in random_weaving(source, 50):
                steps = steps_by_the_words(one)
                self.assertEqual(list(one.steps()), steps)
                if not steps:
                    self.assertIsNone(one.step(choice))
                    continue
                step = steps[choice % len(steps)]
                at = one.at
                self.assertEqual(one.step(choice), step)
                self.assertEqual(one.at, at + (step[0] == "read"))
                weaving.append(choice % len(steps))
                if step[0] == "read":
                    model.take(one.deeds[at])
                else:
                    model.arrive(step[1], stays=step[0] == "stay")
                self.assertEqual([seen_net(one.net), one.weaving], [seen_net(model), weaving])

    def test_a_weaving_that_was_done_does_it_again(self):
        source = random.Random(670)
        for row in ALL:
            net = random_net(source, row)
            tape = random_tape(source, net, finish=0) + [("finish",)]
            first = run(net, tape, random_weaving(source))
            second = Run(net, tape)
            second.follow(first.weaving)
            self.assertEqual([seen_net(second.net), second.weaving, second.done], [seen_net(first.net), first.weaving, True])


class EndTest(unittest.TestCase):

    def test_without_a_finish_on_the_tape(self):
        one = Run(net_of(), TAPE)
        one.follow([0, 1])
        self.assertIsNone(one.end())
        self.assertEqual([one.deeds, one.at, one.done, one.net.gate.finished], [TAPE + [("finish",)], 4, True, True])
        self.assertEqual(one.weaving, [0, 1] + [0] * (len(one.weaving) - 2))
        # Three reads behind the first one, and the messages that there are: letter, yards, marks, and the holding.
        self.assertEqual(len(one.weaving), 2 + 3 + 1 + 2 + 2 + 1)
        self.assertEqual(one.net.board.rows(), [("a", 0, 1, (7, 5))])

    def test_with_a_finish_on_the_tape(self):
        one = Run(net_of(), TAPE + [("finish",)])
        one.end()
        self.assertEqual([one.deeds, one.at, one.done], [TAPE + [("finish",)], 4, True])
        other = Run(net_of(), TAPE)
        other.end()
        self.assertEqual([seen_net(one.net), one.weaving], [seen_net(other.net), other.weaving])

    def test_a_net_that_has_finished(self):
        net = net_of()
        for deed in TAPE + [("finish",)]:
            net.take(deed)
        one = run(net, [])
        self.assertEqual([one.deeds, one.at, one.done], [[], 0, True])
        self.assertEqual(one.net.board.rows(), [("a", 0, 1, (7, 5))])

    def test_all_deeds_and_then_the_oldest_messages(self):
        source = random.Random(671)
        for row in ALL:
            one = Run(random_net(source, row), [])
            tape = random_tape(source, one.net)
            one.deeds = list(tape)
            one.follow(random_weaving(source, 15))
            model, at, many = one.net.twin(), one.at, len(one.weaving)
            one.end()
            for deed in tape[at:]:
                model.take(deed)
            if not model.gate.finished:
                model.take(("finish",))
            arrived = model.settle()
            self.assertEqual(seen_net(one.net), seen_net(model))
            self.assertEqual(one.weaving[many:], [0] * (len(one.deeds) - at + arrived))

    def test_a_second_end_does_nothing(self):
        one = run(net_of(), TAPE)
        before = [seen_net(one.net), list(one.weaving), list(one.deeds), one.at]
        one.end()
        self.assertEqual([seen_net(one.net), one.weaving, one.deeds, one.at], before)

    def test_run(self):
        source = random.Random(672)
        for row in ALL:
            net = random_net(source, row)
            tape, weaving = random_tape(source, net), random_weaving(source)
            one = Run(net, tape)
            one.follow(weaving)
            one.end()
            for choices in (weaving, tuple(weaving)):
                other = run(net, tape, choices)
                self.assertEqual([seen_net(other.net), other.weaving, other.deeds, other.at, other.done],
                                 [seen_net(one.net), one.weaving, one.deeds, one.at, True])
        self.assertEqual(run(net_of(), TAPE).net.board, plain_behind(net_of(), TAPE + [("finish",)]).board)


class ErrorsTest(unittest.TestCase):

    def test_a_step_that_raises_changes_nothing(self):
        for deed, error in ((("event", "zz", 1, 1), UnknownName), (("yard", (3,)), BadYard), (("finish",), Finished)):
            net = net_of()
            one = Run(net, TAPE[:1] + ([("finish",)] if error is Finished else []) + [deed] + TAPE[1:])
            for _ in range(len(one.deeds) - 3):
                one.step(0)
            before = [seen_net(one.net), list(one.weaving), list(one.deeds), one.at]
            with self.assertRaises(error):
                one.step(0)
            self.assertEqual([seen_net(one.net), one.weaving, one.deeds, one.at], before)
            # The messages can still arrive.
            self.assertEqual(one.step(1), ("arrive", 0))

    def test_a_weaving_that_raises_in_the_middle(self):
        tape = [TAPE[0], ("event", "zz", 1, 1), TAPE[1]]
        one = Run(net_of(), tape)
        with self.assertRaises(UnknownName) as caught:
            one.follow([0, 1, 0, 0, 0])
        self.assertEqual(caught.exception.name, "zz")
        self.assertEqual([one.at, one.weaving, len(one.net), sorted(one.net.workers[0].live)], [1, [0, 1], 0, ["a"]])
        with self.assertRaises(UnknownName):
            run(net_of(), tape, [0, 1, 0])

    def test_an_end_that_raises_in_the_middle(self):
        tape = TAPE[:2] + [("yard", (5,)), TAPE[2]]
        one = Run(net_of(), tape)
        with self.assertRaises(BadYard):
            one.end()
        self.assertEqual([one.at, one.weaving, one.deeds, one.net.gate.finished, len(one.net)], [2, [0, 0], tape, False, 3])
        one = Run(net_of(), [("finish",), TAPE[0]])
        with self.assertRaises(Finished):
            one.end()
        self.assertEqual([one.at, one.deeds], [1, [("finish",), TAPE[0]]])


if __name__ == "__main__":
    unittest.main()
