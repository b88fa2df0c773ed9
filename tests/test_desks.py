"""Desks: points 96 and 97."""

import random
import unittest

from movedstates.accounts import account
from movedstates.costs import loads_of, step_cost
from movedstates.crews import Crew
from movedstates.cuts import Cut, CutNet, resume
from movedstates.desks import Desk
from movedstates.errors import (BadGap, BadKind, BadName, BadRanking, BadSheet, BadYard, Finished, NoCut, NotAgain, NoWay, Unclear,
                                UnknownName)
from movedstates.falls import fall
from movedstates.holdings import Holding
from movedstates.plainruns import PlainRun
from movedstates.plans import cheapest
from movedstates.schemes import Scheme
from movedstates.trials import Trial
from tests.cutnets import seen_cut, seen_cut_net
from tests.desks import DeskByTheWords, RandomDeeds, answers, random_desk, seen_desk, seen_plain
from tests.nets import ALL, BAD_SHEETS, SHEETS
from tests.owners import bad_rankings, bad_yards, random_yard

CREW = Crew([("x", "m"), ("y", "m"), ("z", "n")])
SCHEME = Scheme([])
RANKINGS = {"a": [1, 0, 2], "b": [0, 1, 2]}


def desk_of(kind="list", *, gap=2, yard=(0,), sheet=("place", "forward", False), again=False, rankings=RANKINGS):
    return Desk(kind, gap=gap, crew=CREW, scheme=SCHEME, rankings=rankings, yard=yard, sheet=sheet, again=again)


class MadeTest(unittest.TestCase):

    def test_a_new_one(self):
        for sheet in SHEETS:
            for again in (False, True):
                desk = desk_of("heads", gap=3, yard=(0, 2), sheet=sheet, again=again)
                self.assertIs(type(desk.net), CutNet)
                self.assertIs(type(desk.mirror), PlainRun)
                net = CutNet("heads", gap=3, crew=CREW, scheme=SCHEME, rankings=RANKINGS, yard=(0, 2), sheet=sheet, again=again)
                self.assertEqual(seen_desk(desk), [seen_cut_net(net), seen_plain(PlainRun("heads", gap=3)), [], []])
                self.assertEqual([desk.cuts, desk.mirrors, desk.reports(), desk.missing(), desk.extra()], [[]] * 5)
        desk = Desk("bag", gap=0, crew=CREW, scheme=SCHEME, rankings={}, yard=(1,))
        self.assertEqual([desk.net.sheet, desk.net.again], [("place", "forward", False), False])

    def test_errors_in_their_order(self):
        with self.assertRaises(BadKind):
            desk_of("bags", gap=-1, rankings={"a": []}, yard=(), sheet=None)
        with self.assertRaises(BadGap):
            desk_of(gap=-1, rankings={"a": []}, yard=(), sheet=None)
        for ranking in bad_rankings(CREW):
            with self.assertRaises(BadRanking):
                desk_of(rankings={"a": ranking}, yard=(), sheet=None)
        for yard in bad_yards(CREW):
            with self.assertRaises(BadYard):
                desk_of(yard=yard, sheet=None)
        for sheet in BAD_SHEETS:
            with self.assertRaises(BadSheet):
                desk_of(sheet=sheet)

    def test_methods_stand_in_the_class(self):
        for name in ("__init__", "twin", "over", "event", "raise_floor", "resize", "finish", "arrive", "settle", "cut", "back", "fall",
                     "trial", "take", "reports", "missing", "extra", "account_of", "cost_of", "plan_to"):
            self.assertIn(name, vars(Desk))


class DeedTest(unittest.TestCase):

    def both(self, method, deed, before=(), **more):
        """What a method and the deed return at two desks behind the same deeds, which must be the same; and the first desk."""
        one, other = desk_of(**more), desk_of(**more)
        for desk in (one, other):
            for first in before:
                desk.take(first)
        word, *rest = method
        kept = rest.pop() if rest and isinstance(rest[-1], dict) else {}
        found = getattr(one, word)(*rest, **kept)
        self.assertEqual(other.take(deed), found)
        self.assertEqual(seen_desk(one), seen_desk(other))
        return found, one

    def test_event(self):
        deed = ("event", "a", 4, 9)
        found, desk = self.both(deed, deed)
        self.assertEqual([found, desk.net.gate.letters_of("a"), desk.mirror.gate.letters_of("a")], [0, [(0, 4, 9)], [(0, 4, 9)]])
        self.assertEqual([message.body for message in desk.net], [("letter", "a", 0, 4, 9)])
        self.assertEqual([desk.event("a", 4, 8), desk.event("b", 4, 8), desk.event("a", 5, 8)], [1, 0, 2])
        found, desk = self.both(("event", "a", 3, 9), ("event", "a", 3, 9), [deed])
        self.assertIsNone(found)
        self.assertEqual([desk.net.gate.late(), desk.mirror.gate.late(), len(desk.net)], [[("a", 3, 9)], [("a", 3, 9)], 1])

    def test_raise(self):
        found, desk = self.both(("raise_floor", 3), ("raise", 3))
        self.assertIs(found, True)
        self.assertEqual([desk.net.gate.floor, desk.mirror.gate.floor, len(desk.net)], [3, 3, 3])
        for time in (3, 2):
            found, desk = self.both(("raise_floor", time), ("raise", time), [("raise", 3)])
            self.assertIs(found, False)
            self.assertEqual([desk.net.gate.floor, desk.mirror.gate.floor, len(desk.net)], [3, 3, 3])

    def test_yard(self):
        found, desk = self.both(("resize", (0, 1)), ("yard", (0, 1)))
        self.assertEqual([found, desk.net.yards, len(desk.net)], [1, [(0,), (0, 1)], 3])
        self.assertEqual([desk.resize((0, 1)), desk.resize((0,)), desk.net.newest], [2, 3, (0,)])

    def test_finish(self):
        before = [("event", "a", 1, 5), ("yard", (0, 1))]
        found, desk = self.both(("finish",), ("finish",), before)
        # A letter, three yards and three marks, and a holding.
        self.assertEqual([found, len(desk.net), desk.reports(), desk.missing()], [8, 0, [("a", 1, 1, (5,))], []])
        self.assertEqual([desk.net.gate.finished, desk.mirror.gate.finished], [True, True])

    def test_arrive(self):
        before = [("event", "a", 1, 5), ("event", "a", 9, 5), ("event", "b", 1, 5)]
        for choice, place in ((0, 0), (1, 1), (2, 2), (3, 0), (7, 1), (10 ** 20 + 1, (10 ** 20 + 1) % 3)):
            found, desk = self.both(("arrive", choice), ("arrive", choice), before)
            other = desk_of()
            for deed in before:
                other.take(deed)
            other.net.arrive(place)
            self.assertEqual([found, seen_desk(desk)], [[], seen_desk(other)])
        found, desk = self.both(("arrive", 0), ("arrive", 0), before + [("arrive", 0)])
        self.assertEqual([found, desk.reports(), len(desk.net)], [[("a", 1, 1, (5,))], [("a", 1, 1, (5,))], 1])

    def test_stay(self):
        before = [("event", "a", 1, 5), ("event", "b", 1, 5)]
        for choice in (0, 4):
            found, desk = self.both(("arrive", choice, {"stays": True}), ("stay", choice), before, again=True)
            self.assertEqual([found, len(desk.net), sorted(desk.net.workers[0].live)], [[], 2, ["a"]])

    def test_nothing_under_way(self):
        for again in (False, True):
            for method, deed in ((("arrive", 3), ("arrive", 3)), (("arrive", 3, {"stays": True}), ("stay", 3))):
                found, desk = self.both(method, deed, again=again)
                self.assertEqual([found, seen_desk(desk)], [[], seen_desk(desk_of(again=again))])

    def test_settle(self):
        found, desk = self.both(("settle",), ("settle",))
        self.assertEqual(found, 0)
        found, desk = self.both(("settle",), ("settle",), [("event", "a", 1, 5), ("yard", (1,)), ("raise", 0)])
        self.assertEqual([found, len(desk.net), sorted(desk.net.workers[1].live)], [8, 0, ["a"]])

    def test_cut(self):
        before = [("event", "a", 1, 5), ("event", "a", 9, 5), ("event", "b", 1, 6), ("arrive", 0)]
        found, desk = self.both(("cut",), ("cut",), before)
        self.assertEqual([found, len(desk.net), desk.net.cut_open, len(desk.cuts), len(desk.mirrors)], [0, 0, False, 1, 1])
        self.assertIs(type(desk.cuts[0]), Cut)
        self.assertEqual(seen_cut(desk.cuts[0]), seen_cut(desk.net.cuts[0]))
        self.assertEqual(seen_plain(desk.mirrors[0]), seen_plain(desk.mirror))
        desk.event("a", 30, 5)
        desk.finish()
        self.assertEqual(len(desk.mirrors[0].board), 1)
        self.assertEqual([desk.cut(), desk.cut(), len(desk.cuts)], [1, 2, 3])
        self.assertEqual([len(mirror.board) for mirror in desk.mirrors], [1, 4, 4])

    def test_back(self):
        before = [("event", "a", 1, 5), ("cut",), ("event", "a", 2, 6), ("cut",), ("yard", (1,)), ("event", "a", 9, 7), ("cut",), ("finish",)]
        for number in (0, 1, 2):
            found, desk = self.both(("back", number), ("back", number), before)
            self.assertIsNone(found)
            self.assertEqual([len(desk.cuts), len(desk.mirrors), len(desk.net.cuts)], [number + 1, number + 1, 0])
            self.assertEqual(seen_cut_net(desk.net), seen_cut_net(resume(desk.cuts[number])))
            self.assertEqual(seen_plain(desk.mirror), seen_plain(desk.mirrors[number]))
            # The mirror that was kept stays as it is, and one can go back once more.
            seen = seen_desk(desk)
            desk.event("a", 40, 4)
            desk.finish()
            desk.back(number)
            self.assertEqual(seen_desk(desk), seen)
            self.assertEqual(desk.cut(), number + 1)

    def test_fall(self):
        before = [("event", "a", 1, 5), ("event", "b", 1, 5), ("settle",)]
        found, desk = self.both(("fall", 0), ("fall", 0), before)
        self.assertEqual(found, [("a", (0, 1, 5)), ("b", (0, 1, 5))])
        other = desk_of()
        for deed in before:
            other.take(deed)
        self.assertEqual([fall(other.net, 0), seen_desk(other)], [found, seen_desk(desk)])

    def test_trial(self):
        before = [("event", "a", 1, 5), ("cut",)]
        deeds = [("event", "a", 2, 5), ("back", 0), ("finish",), ("trial", [("settle",), ("cut",)]), ("cut",)]
        one, other = desk_of(), desk_of()
        for desk in (one, other):
            for deed in before:
                desk.take(deed)
        found = one.take(("trial", deeds))
        self.assertEqual([seen_desk(one), seen_desk(other)], [seen_desk(other), seen_desk(one)])
        self.assertEqual(found, [1, None, 3, [0, 1], 1])
        self.assertIsInstance(one.trial(), Trial)

    def test_against_the_words(self):
        source = random.Random(960)
        words = {}
        for row in ALL * 3:
            desk = random_desk(source, row, keys="ab")
            model, deeds = DeskByTheWords(desk), RandomDeeds(source, desk)
            for _ in range(40):
                deed = deeds.deed(len(desk.cuts))
                words[deed[0]] = words.get(deed[0], 0) + 1
                self.assertEqual(desk.take(deed), model.take(deed))
            self.assertEqual(seen_desk(desk), model.seen())
            self.assertEqual([desk.take(("finish",)), seen_desk(desk)], [model.take(("finish",)), model.seen()])
        self.assertEqual(sorted(words), ["arrive", "back", "cut", "event", "fall", "raise", "settle", "stay", "yard"])
        self.assertTrue(all(many > 50 for many in words.values()), words)


class ErrorsTest(unittest.TestCase):

    def refused(self, desk, error, *deeds):
        """Each deed raises the error, by its method and by take, and nothing changes."""
        before = seen_desk(desk)
        names = {"raise": "raise_floor", "yard": "resize"}
        for word, *rest in deeds:
            with self.assertRaises(error):
                desk.take((word, *rest))
            with self.assertRaises(error) as caught:
                if word == "stay":
                    desk.arrive(*rest, stays=True)
                else:
                    getattr(desk, names.get(word, word))(*rest)
            self.assertEqual(seen_desk(desk), before)
        return caught.exception

    def busy(self, **more):
        desk = desk_of(**more)
        for deed in (("event", "a", 1, 5), ("cut",), ("event", "a", 2, 5), ("raise", 0), ("yard", (0, 1))):
            desk.take(deed)
        return desk

    def test_finished(self):
        desk = self.busy()
        desk.finish()
        self.refused(desk, Finished, ("event", "a", 1, 1), ("event", "zz", 1, 1), ("raise", 9), ("yard", (0,)), ("yard", ()), ("finish",))

    def test_unknown_names_and_bad_yards(self):
        desk = self.busy()
        for key in ("c", "", "A"):
            self.assertEqual(self.refused(desk, UnknownName, ("event", key, -9, 1), ("event", key, 9, 1)).name, key)
        for yard in bad_yards(CREW):
            self.refused(desk, BadYard, ("yard", yard))
        desk = desk_of(rankings={"A": [0, 1, 2]})
        self.refused(desk, BadName, ("event", "A", 1, 1))

    def test_not_again(self):
        desk = self.busy()
        self.refused(desk, NotAgain, ("stay", 0), ("stay", 10 ** 9))
        self.assertEqual(self.busy(again=True).take(("stay", 0)), [])

    def test_no_cut(self):
        for number in (0, 1, -1):
            self.assertEqual(self.refused(desk_of(), NoCut, ("back", number)).number, number)
        desk = self.busy()
        for number in (1, 2, -1, -2, 99):
            self.assertEqual(self.refused(desk, NoCut, ("back", number)).number, number)
        desk.cut()
        desk.back(0)
        self.assertEqual(self.refused(desk, NoCut, ("back", 1)).number, 1)

    def test_bad_sheet(self):
        for sheet in SHEETS:
            if sheet[0] == "count":
                self.refused(self.busy(kind="set", sheet=sheet), BadSheet, ("fall", 0), ("fall", 2))

    def test_an_error_in_a_list_of_deeds_of_a_trial(self):
        desk = self.busy()
        before = seen_desk(desk)
        with self.assertRaises(NoCut):
            desk.take(("trial", [("finish",), ("back", 5)]))
        self.assertEqual(seen_desk(desk), before)

    def test_a_mirror_that_has_finished(self):
        mirror = PlainRun("list", gap=2)
        mirror.take(("finish",))
        desk = Desk.over(desk_of().net, mirror)
        self.refused(desk, Finished, ("event", "a", 1, 1), ("raise", 9), ("yard", (0,)), ("finish",))


class QuestionsTest(unittest.TestCase):

    def test_reports_missing_and_extra(self):
        desk = desk_of()
        for deed in (("event", "b", 1, 6), ("event", "b", 9, 7), ("event", "a", 1, 5), ("raise", 4)):
            desk.take(deed)
        self.assertEqual([desk.reports(), desk.missing(), desk.extra()], [[], [("a", 1, 1, (5,)), ("b", 1, 1, (6,))], []])
        for _ in range(2):
            desk.arrive(0)
        self.assertEqual([desk.reports(), desk.missing(), desk.extra()], [[("b", 1, 1, (6,))], [("a", 1, 1, (5,))], []])
        desk.finish()
        wanted = [("a", 1, 1, (5,)), ("b", 1, 1, (6,)), ("b", 9, 9, (7,))]
        self.assertEqual([desk.reports(), desk.missing(), desk.extra()], [wanted, [], []])
        for question in (desk.reports, desk.missing, desk.extra):
            question().append(None)
            self.assertNotIn(None, question())

    def test_extra_and_missing_with_heaps(self):
        desk = desk_of("heads", sheet=("count", "forward", False))
        for time, value in ((0, 5), (0, 6), (9, 5)):
            desk.event("a", time, value)
        desk.arrive(1)
        desk.finish()
        self.assertEqual([desk.extra(), desk.missing()], [[("a", 0, 0, (6, 5))], [("a", 0, 0, (5, 6))]])
        self.assertEqual(desk.reports(), [("a", 0, 0, (6, 5)), ("a", 9, 9, (5,))])

    def test_account_of(self):
        desk = desk_of()
        desk.event("a", 1, 5)
        desk.settle()
        desk.event("a", 2, 6)
        self.assertEqual(desk.account_of("a"), Holding.of("list", [(0, 1, 5), (1, 2, 6)], gap=2))
        self.assertEqual(desk.account_of("b"), Holding.empty("list", gap=2))
        with self.assertRaises(UnknownName) as caught:
            desk.account_of("zz")
        self.assertEqual(caught.exception.name, "zz")

    def test_an_unclear_account(self):
        desk = desk_of("bag", again=True)
        for value in (7, 5, 7):
            desk.event("a", 0, value)
        for deed in (("arrive", 0), ("stay", 0), ("yard", (0, 1)), ("arrive", 2), ("arrive", 0), ("arrive", 0)):
            desk.take(deed)
        for back in (2, 1):
            desk.arrive(len(desk.net) - back)
        with self.assertRaises(Unclear):
            desk.account_of("a")

    def test_costs_and_plans(self):
        desk = desk_of(yard=(0, 2))
        for key in "ab":
            desk.event(key, 1, 5)
        self.assertEqual([desk.cost_of((1,)), desk.plan_to((1, 2)).cost], [0, 0])
        desk.settle()
        loads = loads_of(desk.net)
        self.assertEqual([desk.cost_of((1,)), desk.cost_of((0, 1, 2)), desk.cost_of((0,))], [12, 6, 0])
        desk.resize((0, 1, 2))
        desk.settle()
        self.assertEqual(desk.cost_of((0, 2)), 6)
        for most, least in ((1, 1), (2, 1), (1, 2), (3, 2)):
            plan = desk.plan_to((1, 2), most=most, least=least)
            other = cheapest(CREW, SCHEME, loads, (0, 1, 2), (1, 2), most=most, least=least)
            self.assertEqual([plan.cost, plan.table, plan.yards[0], plan.yards[-1]], [other.cost, other.table, (0, 1, 2), (1, 2)])
        self.assertEqual(desk.plan_to((2,)).table, cheapest(CREW, SCHEME, loads, (0, 1, 2), (2,)).table)

    def test_errors(self):
        desk = desk_of(yard=(0, 2))
        for yard in bad_yards(CREW):
            for question in (desk.cost_of, desk.plan_to):
                with self.assertRaises(BadYard):
                    question(yard)
        for yard, least in (((0,), 2), ((0, 1), 3)):
            with self.assertRaises(NoWay):
                desk.plan_to(yard, least=least)

    def test_at_random(self):
        source = random.Random(970)
        for row in ALL * 2:
            desk = random_desk(source, row, keys="ab")
            deeds = RandomDeeds(source, desk)
            for _ in range(25):
                desk.take(deeds.deed(len(desk.cuts)))
            net, told = desk.net, desk.mirror.board.rows()
            self.assertEqual(desk.reports(), net.board.rows())
            self.assertEqual(desk.missing(), [report for report in told if report not in net.board.rows()])
            self.assertEqual(desk.extra(), [report for report in net.board.rows() if report not in told])
            yard = random_yard(source, net.routing.crew)
            crew, scheme = net.routing.crew, net.routing.scheme
            self.assertEqual(desk.cost_of(yard), step_cost(crew, scheme, loads_of(net), net.newest, yard))
            self.assertEqual(desk.plan_to(yard).table, cheapest(crew, scheme, loads_of(net), net.newest, yard).table)
            if row[0] != "bag":
                self.assertEqual(desk.account_of("a"), account(net, "a"))


class OverTest(unittest.TestCase):

    def test_twins_of_both_as_they_are(self):
        net = CutNet("bag", gap=2, crew=CREW, scheme=SCHEME, rankings=RANKINGS, yard=(0,), again=True)
        mirror = PlainRun("bag", gap=2)
        for deed in (("event", "a", 1, 5), ("event", "a", 9, 5), ("yard", (0, 1))):
            net.take(deed)
            mirror.take(deed)
        net.begin_cut()
        net.settle()
        net.take(("event", "b", 9, 5))
        before = [seen_cut_net(net), seen_plain(mirror)]
        desk = Desk.over(net, mirror)
        self.assertIs(type(desk), Desk)
        self.assertEqual(seen_desk(desk), before + [[], []])
        self.assertEqual(len(desk.net.cuts), 1)
        desk.event("b", 10, 4)
        self.assertEqual(desk.cut(), 0)
        desk.finish()
        self.assertEqual([seen_cut_net(net), seen_plain(mirror)], before)
        seen = seen_desk(desk)
        net.settle()
        mirror.take(("finish",))
        self.assertEqual(seen_desk(desk), seen)

    def test_the_cuts_of_the_net_are_none_of_the_desk(self):
        net = CutNet("list", gap=2, crew=CREW, scheme=SCHEME, rankings=RANKINGS, yard=(0,))
        net.begin_cut()
        net.settle()
        desk = Desk.over(net, PlainRun("list", gap=2))
        with self.assertRaises(NoCut):
            desk.back(0)
        self.assertEqual([desk.cut(), desk.cuts[0].number], [0, 2])


class TwinTest(unittest.TestCase):

    def test_twins(self):
        source = random.Random(961)
        for row in ALL * 2:
            desk = random_desk(source, row, keys="ab")
            deeds = RandomDeeds(source, desk)
            for _ in range(20):
                desk.take(deeds.deed(len(desk.cuts)))
            twin = desk.twin()
            self.assertIs(type(twin), Desk)
            before = seen_desk(desk)
            self.assertEqual(seen_desk(twin), before)
            later = []
            for _ in range(15):
                later.append(deeds.deed(len(twin.cuts)))
                twin.take(later[-1])
            self.assertEqual(seen_desk(desk), before)
            after = seen_desk(twin)
            for deed in later:
                desk.take(deed)
            self.assertEqual([seen_desk(desk), seen_desk(twin)], [after, after])
            yards = [desk.net.newest, desk.net.yards[0]]
            self.assertEqual(answers(desk, yards), answers(twin, yards))


if __name__ == "__main__":
    unittest.main()
