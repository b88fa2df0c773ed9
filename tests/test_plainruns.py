"""The plain run: points 1, 2, 17, 18 and 19."""

import random
import unittest

from movedstates.boards import Board
from movedstates.errors import BadGap, BadKind, BadName, Finished
from movedstates.gates import Gate
from movedstates.kinds import KIND_NAMES
from movedstates.plainruns import PlainRun, plain_board
from movedstates.sessions import cut_sessions, told_sessions
from tests.helpers import NOT_KINDS


def random_tape(source, most=14):
    """A tape of a few keys."""
    deeds = []
    time = 0
    for _ in range(source.randint(0, most)):
        time += source.choice((0, 0, 1, 2, 3))
        event = ("event", source.choice("abc"), time + source.choice((0, 0, -2, 1)), source.choice((5, 6, 7)))
        deeds.append(source.choice((event, event, event, ("raise", time + source.choice((-2, 0, 1, 4))), ("yard", (0,)))))
    return deeds


def told_by_the_words(kind, gate, gap):
    """The tuples (key, session) of all sessions that are told at the newest marks."""
    return [(key, session) for key in gate.known()
            for session in told_sessions(kind, gate.letters_of(key), gate.mark_of(key), gap=gap)]


def state(run):
    gate = run.gate
    letters = [(gate.letters_of(key), gate.mark_of(key)) for key in "abcz"]
    return [run.kind, run.gap, run.board.rows(), run.board.repeats, gate.floor, gate.finished, gate.late(), letters]


class TakeTest(unittest.TestCase):

    def test_at_first(self):
        run = PlainRun("bag", gap=4)
        self.assertEqual([run.kind, run.gap], ["bag", 4])
        self.assertIs(type(run.gate), Gate)
        self.assertIs(type(run.board), Board)
        self.assertEqual([run.gate.known(), len(run.board)], [[], 0])

    def test_just_what_is_newly_told(self):
        source = random.Random(19)
        for _ in range(250):
            kind = source.choice(KIND_NAMES)
            gap = source.randint(0, 3)
            run = PlainRun(kind, gap=gap)
            gate = Gate()
            told = []
            for deed in random_tape(source) + [("finish",)]:
                gate.take(deed)
                reports = run.take(deed)
                wanted = [pair for pair in told_by_the_words(kind, gate, gap) if pair not in told]
                self.assertEqual(reports, [(key, session[2], session[3], session[4]) for key, session in wanted])
                told += wanted
                self.assertEqual(sorted(run.board.rows()), sorted(
                    (key, session[2], session[3], session[4]) for key, session in told))
            self.assertEqual(run.board.repeats, 0)

    def test_the_keys_ascend(self):
        run = PlainRun("first", gap=1)
        for key in ("c", "a", "b"):
            self.assertEqual(run.take(("event", key, 0, 5)), [])
        self.assertEqual(run.take(("event", "c", 9, 6)), [("c", 0, 0, (5,))])
        self.assertEqual(run.take(("raise", 2)), [("a", 0, 0, (5,)), ("b", 0, 0, (5,))])
        self.assertEqual(run.take(("finish",)), [("c", 9, 9, (6,))])

    def test_a_floor_at_the_bound_and_one_above_it(self):
        run = PlainRun("list", gap=3)
        run.take(("event", "a", 4, 5))
        self.assertEqual(run.take(("raise", 7)), [])
        self.assertIs(run.gate.lets_in("a", 7), True)
        self.assertEqual(run.take(("raise", 8)), [("a", 4, 4, (5,))])
        self.assertEqual(run.take(("raise", 8)), [])

    def test_a_told_session_is_not_told_again(self):
        run = PlainRun("list", gap=0)
        run.take(("event", "a", 4, 5))
        self.assertEqual(run.take(("event", "a", 6, 6)), [("a", 4, 4, (5,))])
        self.assertEqual(run.take(("raise", 7)), [("a", 6, 6, (6,))])
        self.assertEqual(run.take(("event", "a", 7, 7)), [])
        self.assertEqual(run.take(("event", "a", 8, 8)), [("a", 7, 7, (7,))])
        self.assertEqual(run.take(("finish",)), [("a", 8, 8, (8,))])
        self.assertEqual(len(run.board), 4)

    def test_a_late_event_and_a_yard_tell_nothing(self):
        run = PlainRun("list", gap=0)
        run.take(("event", "a", 4, 5))
        self.assertEqual([run.take(("event", "a", 3, 5)), run.take(("yard", (0, 1)))], [[], []])
        self.assertEqual(run.gate.late(), [("a", 3, 5)])

    def test_an_untold_session_can_grow(self):
        source = random.Random(191)
        for _ in range(150):
            gap = source.randint(0, 3)
            run = PlainRun("list", gap=gap)
            for deed in random_tape(source):
                run.take(deed)
            for key in run.gate.known():
                sessions = cut_sessions("list", run.gate.letters_of(key), gap=gap)
                told = len(run.board.reports_of(key))
                if told < len(sessions):
                    self.assertEqual(told, len(sessions) - 1)
                    last = sessions[-1]
                    floor = run.gate.floor
                    time = last[3] if floor is None else max(last[3], floor)
                    self.assertTrue(run.gate.lets_in(key, time))
                    other = run.twin()
                    other.take(("event", key, time, 5))
                    grown = cut_sessions("list", other.gate.letters_of(key), gap=gap)[-1]
                    self.assertEqual([grown[0], grown[1]], [last[0], last[1] + 1])

    def test_errors_change_nothing(self):
        run = PlainRun("set", gap=1)
        run.take(("event", "a", 4, 5))
        before = state(run)
        with self.assertRaises(BadName) as caught:
            run.take(("event", "A", 99, 5))
        self.assertEqual(caught.exception.name, "A")
        self.assertEqual(state(run), before)
        self.assertEqual(run.take(("finish",)), [("a", 4, 4, (5,))])
        before = state(run)
        for deed in (("event", "a", 9, 9), ("event", "A", 9, 9), ("raise", 9), ("yard", (0,)), ("finish",)):
            with self.assertRaises(Finished):
                run.take(deed)
        self.assertEqual(state(run), before)

    def test_bad_kind_and_then_bad_gap(self):
        for call in (lambda kind, gap: PlainRun(kind, gap=gap), lambda kind, gap: plain_board(kind, [("finish",)] * 2, gap=gap)):
            for thing in NOT_KINDS:
                with self.assertRaises(BadKind) as caught:
                    call(thing, -1)
                self.assertIs(caught.exception.name, thing)
            with self.assertRaises(BadGap) as caught:
                call("list", -2)
            self.assertEqual(caught.exception.gap, -2)

    def test_the_reports_of_a_key_depend_on_its_own_events(self):
        source = random.Random(192)
        for _ in range(100):
            deeds = random_tape(source)
            own = [deed for deed in deeds if deed[0] != "yard" and (deed[0] != "event" or deed[1] == "b")]
            board, other = plain_board("ends", deeds, gap=2), plain_board("ends", own, gap=2)
            self.assertEqual(board.reports_of("b"), other.reports_of("b"))

    def test_returned_lists_are_new(self):
        run = PlainRun("set", gap=1)
        run.take(("event", "a", 4, 5))
        run.take(("finish",)).clear()
        self.assertEqual(run.board.rows(), [("a", 4, 4, (5,))])

    def test_methods_stand_in_the_class(self):
        for name in ("__init__", "take", "play", "twin"):
            self.assertIn(name, vars(PlainRun))


class PlayTest(unittest.TestCase):

    def test_each_deed_when_its_reports_are_asked_for(self):
        run = PlainRun("list", gap=0)
        steps = run.play([("event", "a", 1, 5), ("event", "a", 3, 6), ("finish",)])
        self.assertEqual(run.gate.count_of("a"), 0)
        self.assertEqual([next(steps), run.gate.count_of("a")], [[], 1])
        self.assertEqual([next(steps), run.gate.count_of("a")], [[("a", 1, 1, (5,))], 2])
        self.assertIs(run.gate.finished, False)
        self.assertEqual(list(steps), [[("a", 3, 3, (6,))]])

    def test_the_deeds_before_an_error_stay_taken(self):
        run = PlainRun("list", gap=0)
        deeds = [("event", "a", 1, 5), ("finish",), ("event", "a", 3, 6), ("event", "a", 4, 6)]
        steps = run.play(deeds)
        self.assertEqual([next(steps), next(steps)], [[], [("a", 1, 1, (5,))]])
        with self.assertRaises(Finished):
            next(steps)
        self.assertEqual([run.gate.count_of("a"), run.gate.finished, len(run.board)], [1, True, 1])
        self.assertEqual(len(deeds), 4)

    def test_no_deeds(self):
        self.assertEqual(list(PlainRun("list", gap=0).play([])), [])

    def test_example(self):
        run = PlainRun("ends", gap=2)
        deeds = [("event", "a", 1, 5), ("event", "a", 3, 6), ("event", "a", 8, 4), ("raise", 11)]
        self.assertEqual(list(run.play(deeds)), [[], [], [("a", 1, 3, (5, 6))], [("a", 8, 8, (4, 4))]])


class PlainBoardTest(unittest.TestCase):

    def test_with_a_finish_and_without(self):
        deeds = [("event", "b", 1, 5), ("event", "a", 3, 6), ("event", "b", 8, 4)]
        wanted = [("a", 3, 3, (6,)), ("b", 1, 1, (5,)), ("b", 8, 8, (4,))]
        self.assertEqual(plain_board("set", deeds, gap=2).rows(), wanted)
        self.assertEqual(plain_board("set", deeds + [("finish",)], gap=2).rows(), wanted)
        self.assertEqual(len(deeds), 3)

    def test_all_sessions(self):
        source = random.Random(193)
        for _ in range(100):
            kind = source.choice(KIND_NAMES)
            deeds = random_tape(source)
            gate = Gate()
            for deed in deeds:
                gate.take(deed)
            wanted = [(key,) + session[2:] for key in gate.known()
                      for session in cut_sessions(kind, gate.letters_of(key), gap=2)]
            self.assertEqual(plain_board(kind, deeds, gap=2).rows(), wanted)

    def test_no_deeds(self):
        self.assertEqual(plain_board("set", [], gap=0), Board())

    def test_errors(self):
        with self.assertRaises(Finished):
            plain_board("set", [("finish",), ("raise", 1)], gap=2)
        with self.assertRaises(BadName):
            plain_board("set", [("event", "", 1, 1)], gap=2)


class TwinTest(unittest.TestCase):

    def test_twins_go_their_own_ways(self):
        run = PlainRun("heads", gap=1)
        for deed in (("event", "a", 1, 5), ("event", "a", 4, 6), ("raise", 4), ("event", "b", 5, 5), ("event", "b", 1, 1)):
            run.take(deed)
        before = state(run)
        twin = run.twin()
        self.assertEqual(state(twin), before)
        self.assertEqual(twin.take(("event", "b", 9, 7)), [("b", 5, 5, (5,))])
        self.assertEqual(twin.take(("finish",)), [("a", 4, 4, (6,)), ("b", 9, 9, (7,))])
        self.assertEqual(state(run), before)
        other = run.twin()
        self.assertEqual(run.take(("finish",)), [("a", 4, 4, (6,)), ("b", 5, 5, (5,))])
        self.assertEqual(state(other), before)
        self.assertEqual(other.take(("event", "c", 4, 7)), [])


if __name__ == "__main__":
    unittest.main()
