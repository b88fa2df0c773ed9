"""Judgements: points 72 and 75, with 10 and 18."""

import random
import unittest

from movedstates.badruns import bad_run
from movedstates.crews import Crew
from movedstates.errors import BadGap, BadRanking, BadYard, Finished, UnknownName
from movedstates.judging import Judgement, judged
from movedstates.kinds import KIND_NAMES
from movedstates.plainruns import plain_board
from movedstates.runs import run
from movedstates.schemes import Scheme
from movedstates.sheets import Setting
from movedstates.sound import why_not
from movedstates.tables import Table
from tests.nets import ALL, random_weaving
from tests.owners import bad_rankings
from tests.settings import CREW, SCHEME, YARDS, fitting_tape, random_place

RANKINGS = {"a": [1, 0], "b": [0, 1]}


def setting_of(kind="list", yards=YARDS["moves"], *, sheet=("place", "forward", False), again=False):
    return Setting(kind, CREW, SCHEME, yards, sheet=sheet, again=again)


class AgreesTest(unittest.TestCase):

    def test_a_run_that_agrees(self):
        tape = [("event", "a", 1, 7), ("event", "b", 2, 7), ("yard", (0, 1)), ("event", "a", 2, 5)]
        for kind in KIND_NAMES:
            found = judged(setting_of(kind), RANKINGS, tape, [0, 0, 0, 1, 0, 2], gap=1)
            self.assertIsInstance(found, Judgement)
            self.assertEqual([found.kind, found.unclear], [kind, []])
            self.assertIs(found.agrees, True)
            self.assertEqual([found.board, found.due], [plain_board(kind, tape, gap=1)] * 2)
            self.assertEqual([found.missing(), found.extra(), found.parted()], [[], [], None])

    def test_it_is_the_run_along_the_weaving_behind_its_end(self):
        source = random.Random(720)
        for kind, sheet, again in ALL:
            crew, scheme, yards = random_place(source)
            setting = Setting(kind, crew, scheme, yards, sheet=sheet, again=again)
            rankings = {key: source.sample(range(len(crew)), len(crew)) for key in "ab"}
            tape, weaving, gap = fitting_tape(source, setting), random_weaving(source), source.randint(0, 3)
            ended = run(setting.net_for(rankings, gap=gap), tape, weaving).net
            due = plain_board(kind, tape, gap=gap)
            for choices in (weaving, tuple(weaving)):
                found = judged(setting, rankings, tape, choices, gap=gap)
                self.assertEqual([found.kind, found.board, found.due, found.unclear], [kind, ended.board, due, ended.unclear])
                self.assertIs(found.agrees, ended.unclear == [] and ended.board == due)
                self.assertEqual(found.missing(), [report for report in due.rows() if report not in ended.board.rows()])
                self.assertEqual(found.extra(), [report for report in ended.board.rows() if report not in due.rows()])

    def test_arguments_stay_as_they_were(self):
        rankings, tape, weaving = {"a": [1, 0]}, [("event", "a", 1, 7), ("yard", (0, 1))], [4, 5, 6]
        found = judged(setting_of(), rankings, tape, weaving, gap=1)
        self.assertEqual([rankings, tape, weaving], [{"a": [1, 0]}, [("event", "a", 1, 7), ("yard", (0, 1))], [4, 5, 6]])
        found.missing().append(None)
        found.extra().append(None)
        self.assertEqual([found.missing(), found.extra()], [[], []])

    def test_without_a_weaving(self):
        tape = [("event", "a", 1, 7), ("yard", (0, 1)), ("finish",)]
        self.assertEqual(judged(setting_of(), RANKINGS, tape, gap=1).board.rows(), [("a", 1, 1, (7,))])

    def test_methods_stand_in_the_class(self):
        for name in ("agrees", "missing", "extra", "parted"):
            self.assertIn(name, vars(Judgement))


class DisagreesTest(unittest.TestCase):

    def test_missing(self):
        setting = setting_of(sheet=("place", "drop", False))
        tape = [("event", "b", 4, 6), ("event", "a", 1, 7), ("yard", (0, 1)), ("event", "a", 9, 5)]
        # The letter of a is the oldest message behind that of b, and worker 0 learns of the yard first.
        found = judged(setting, RANKINGS, tape, [0, 0, 0, 3, 2], gap=1)
        self.assertEqual([found.agrees, found.unclear, found.extra(), found.parted()], [False, [], [], None])
        self.assertEqual(found.missing(), [("a", 1, 1, (7,)), ("a", 9, 9, (5,))])
        self.assertEqual(found.board.rows(), [("b", 4, 4, (6,))])

    def test_extra_and_parted(self):
        setting = setting_of("heads", YARDS["one yard"], sheet=("count", "forward", False))
        tape = [("event", "b", 0, 9)] + [("event", "a", 0, value) for value in (7, 5, 6)]
        found = judged(setting, RANKINGS, tape, [0, 0, 0, 0, 3, 2], gap=1)
        self.assertEqual(found.board.rows(), [("a", 0, 0, (6, 5, 7)), ("b", 0, 0, (9,))])
        self.assertEqual([found.agrees, found.unclear], [False, []])
        self.assertEqual([found.extra(), found.missing()], [[("a", 0, 0, (6, 5, 7))], [("a", 0, 0, (7, 5, 6))]])
        report, due, table, reading = found.parted()
        self.assertEqual([report, due], [("a", 0, 0, (6, 5, 7)), ("a", 0, 0, (7, 5, 6))])
        self.check_witness("heads", report, due, table, reading)

    def test_several_parted_ones_of_which_the_first_is_shown(self):
        setting = setting_of("last", YARDS["one yard"], sheet=("count", "forward", False))
        tape = [("event", key, time, value) for key in "ab" for time, value in ((0, 5), (0, 6), (9, 7), (9, 8))]
        found = judged(setting, RANKINGS, tape, [0] * 8 + [1, 0, 2, 1, 0, 0], gap=1)
        self.assertEqual(len(found.extra()), len(found.missing()))
        self.assertGreater(len(found.extra()), 1)
        self.assertEqual(found.parted()[0], found.extra()[0])
        self.check_witness("last", *found.parted())

    def test_unclear(self):
        setting = setting_of("bag", again=True)
        found = judged(setting, *bad_run(setting), gap=3)
        self.assertIs(found.agrees, False)
        self.assertEqual(len(found.unclear), 1)
        worker, key = found.unclear[0]
        self.assertEqual([worker in (0, 1), key in bad_run(setting)[0]], [True, True])
        # It need not be missing for this: something may be noted as unclear and yet come a second time.
        for gap in (0, 9):
            self.assertEqual(judged(setting, *bad_run(setting), gap=gap).unclear, found.unclear)

    def check_witness(self, kind, report, due, table, reading):
        self.assertIsInstance(table, Table)
        self.assertIsNone(table.fault(kind))
        self.assertEqual([value for value, _ in reading], sorted({*report[3], *due[3]}))
        read = dict(reading)
        self.assertNotEqual(table.fold([read[value] for value in report[3]]), table.fold([read[value] for value in due[3]]))

    def test_parted_at_random(self):
        source = random.Random(750)
        parted = {kind: 0 for kind in KIND_NAMES}
        for kind, sheet, again in ALL * 4:
            crew, scheme, yards = random_place(source)
            setting = Setting(kind, crew, scheme, yards, sheet=sheet, again=again)
            rankings = {key: source.sample(range(len(crew)), len(crew)) for key in "ab"}
            tape, weaving = fitting_tape(source, setting, most=12), random_weaving(source)
            found = judged(setting, rankings, tape, weaving, gap=source.randint(1, 3))
            pairs = [(one, due) for one in found.board.rows() for due in found.due.rows() if one[:3] == due[:3] and one[3] != due[3]]
            if not pairs:
                self.assertIsNone(found.parted())
            else:
                parted[kind] += 1
                self.assertEqual(found.parted()[:2], pairs[0])
                self.check_witness(kind, *found.parted())
            if sheet[0] == "place":
                self.assertEqual([found.extra(), pairs], [[], []])
                self.assertIs(found.agrees, found.missing() == [] and found.unclear == [])
        self.assertTrue(all(many > 0 for kind, many in parted.items() if kind not in ("bag", "set")), parted)


class ErrorsTest(unittest.TestCase):

    def test_their_order(self):
        crew = Crew([("x", "m"), ("y", "m"), ("z", "m")])
        setting = Setting("list", crew, Scheme([]), [(0,), (0, 1)])
        for ranking in bad_rankings(crew):
            with self.assertRaises(BadGap) as caught:
                judged(setting, {"a": ranking}, [("event", "zz", 1, 1)], gap=-1)
            self.assertEqual(caught.exception.gap, -1)
            with self.assertRaises(BadRanking):
                judged(setting, {"a": [0, 1, 2], "b": ranking}, [("event", "zz", 1, 1)], gap=0)
        rankings = {"a": [0, 1, 2]}
        for tape in ([("event", "zz", 1, 1)], [("yard", (0,))], [("yard", (0, 1))] * 2, [("yard", (9,))], [("finish",), ("finish",)]):
            with self.assertRaises(BadYard):
                judged(setting, rankings, tape, gap=0)
        with self.assertRaises(UnknownName) as caught:
            judged(setting, rankings, [("yard", (0, 1)), ("event", "zz", 1, 1)], gap=0)
        self.assertEqual(caught.exception.name, "zz")
        with self.assertRaises(Finished):
            judged(setting, rankings, [("finish",), ("yard", (0, 1))], gap=0)
        with self.assertRaises(Finished):
            judged(setting, rankings, [("yard", (0, 1)), ("finish",), ("event", "a", 1, 1)], [0, 0, 0], gap=0)


class ExampleTest(unittest.TestCase):

    def test_the_example(self):
        setting = Setting("heads", Crew([("x", "m"), ("y", "m")]), Scheme.read("take any"), [(0,), (0, 1)],
                          sheet=("count", "forward", False))
        rankings, tape, weaving = bad_run(setting)
        self.assertEqual([why_not(setting), judged(setting, rankings, tape, weaving, gap=3).agrees], ["order", False])


if __name__ == "__main__":
    unittest.main()
