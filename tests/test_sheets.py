"""Sheets and settings: points 71 and 78."""

import random
import unittest

from movedstates.crews import Crew
from movedstates.errors import BadGap, BadKind, BadRanking, BadSheet, BadYard
from movedstates.kinds import KIND_NAMES
from movedstates.nets import Net
from movedstates.schemes import Scheme
from movedstates.sheets import SHEETS, Setting
from tests.helpers import NOT_KINDS, EqualToAll
from tests.nets import BAD_SHEETS, seen_net
from tests.owners import bad_rankings, bad_yards

CREW = Crew([("x", "m"), ("y", "m"), ("z", "n")])
SCHEME = Scheme.read("take make n")
YARDS = [(0,), (0, 1), (0, 1), (2,)]


def setting_of(kind="list", crew=CREW, scheme=SCHEME, yards=YARDS, *, sheet=("place", "forward", False), again=False):
    return Setting(kind, crew, scheme, yards, sheet=sheet, again=again)


class SheetsTest(unittest.TestCase):

    def test_the_eight_in_their_order(self):
        self.assertEqual(SHEETS, (
            ("place", "forward", False), ("place", "forward", True), ("place", "drop", False), ("place", "drop", True),
            ("count", "forward", False), ("count", "forward", True), ("count", "drop", False), ("count", "drop", True)))
        for sheet in SHEETS:
            self.assertIs(type(sheet), tuple)
            self.assertIs(type(sheet[2]), bool)


class MadeTest(unittest.TestCase):

    def test_attributes(self):
        for kind in KIND_NAMES:
            for sheet in SHEETS:
                for again in (False, True):
                    setting = setting_of(kind, sheet=sheet, again=again)
                    self.assertEqual([setting.kind, setting.sheet, setting.again], [kind, sheet, again])
                    self.assertEqual([setting.crew, setting.scheme], [CREW, SCHEME])
                    self.assertEqual(setting.yards, ((0,), (0, 1), (0, 1), (2,)))
        setting = Setting("bag", CREW, SCHEME, [(1,)])
        self.assertEqual([setting.sheet, setting.again, setting.yards], [("place", "forward", False), False, ((1,),)])

    def test_its_own_copy_of_the_yards(self):
        yards = list(YARDS)
        setting = setting_of(yards=yards)
        yards.pop()
        self.assertEqual([len(setting.yards), len(yards)], [4, 3])
        setting.yard_deeds().clear()
        self.assertEqual(len(setting.yard_deeds()), 3)

    def test_how_many_yards(self):
        for many in (1, 2, 5, 6):
            self.assertEqual(len(setting_of(yards=[(0,)] * many).yards), many)
        for many in (0, 7, 8):
            with self.assertRaises(BadYard):
                setting_of(yards=[(0,)] * many)

    def test_errors_in_their_order(self):
        for thing in NOT_KINDS:
            with self.assertRaises(BadKind) as caught:
                setting_of(thing, yards=[], sheet=None)
            self.assertIs(caught.exception.name, thing)
        for sheet in BAD_SHEETS + [EqualToAll()]:
            for yards in ([], YARDS):
                with self.assertRaises(BadSheet):
                    setting_of(yards=yards, sheet=sheet)
        for yard in bad_yards(CREW):
            for yards in ([yard], [(0,), yard], [yard, (0,)], [(0,)] * 3 + [yard, (1,)]):
                with self.assertRaises(BadYard):
                    setting_of(yards=yards)

    def test_methods_stand_in_the_class(self):
        for name in ("__init__", "net_for", "yard_deeds", "fits_tape", "__eq__"):
            self.assertIn(name, vars(Setting))


class NetTest(unittest.TestCase):

    def test_net_for(self):
        rankings = {"a": [2, 1, 0], "b": (0, 1, 2)}
        for sheet in SHEETS:
            for again in (False, True):
                net = setting_of("bag", sheet=sheet, again=again).net_for(rankings, gap=4)
                self.assertIs(type(net), Net)
                other = Net("bag", gap=4, crew=CREW, scheme=SCHEME, rankings=rankings, yard=(0,), sheet=sheet, again=again)
                self.assertEqual(seen_net(net), seen_net(other))
                self.assertEqual([net.routing.crew, net.routing.scheme], [CREW, SCHEME])
        self.assertEqual(rankings, {"a": [2, 1, 0], "b": (0, 1, 2)})

    def test_each_net_is_a_new_one(self):
        setting = setting_of()
        one = setting.net_for({"a": [0, 1, 2]}, gap=1)
        one.take(("event", "a", 1, 1))
        self.assertEqual(len(setting.net_for({"a": [0, 1, 2]}, gap=1)), 0)

    def test_errors_in_their_order(self):
        setting = setting_of()
        for ranking in bad_rankings(CREW):
            with self.assertRaises(BadGap) as caught:
                setting.net_for({"a": ranking}, gap=-1)
            self.assertEqual(caught.exception.gap, -1)
            for rankings in ({"a": ranking}, {"a": [0, 1, 2], "b": ranking}):
                with self.assertRaises(BadRanking):
                    setting.net_for(rankings, gap=0)


class TapeTest(unittest.TestCase):

    def test_yard_deeds(self):
        self.assertEqual(setting_of().yard_deeds(), [("yard", (0, 1)), ("yard", (0, 1)), ("yard", (2,))])
        self.assertEqual(setting_of(yards=[(1,)]).yard_deeds(), [])

    def test_fits_tape(self):
        setting = setting_of()
        deeds = setting.yard_deeds()
        rest = [("event", "a", 1, 1), ("raise", 0), ("finish",)]
        self.assertIs(setting.fits_tape(deeds), True)
        self.assertIs(setting.fits_tape(rest[:1] + deeds[:1] + rest[1:2] + deeds[1:] + rest[2:]), True)
        for at in range(3):
            # Too few, too many, another one.
            self.assertIs(setting.fits_tape(deeds[:at] + deeds[at + 1:] + rest), False)
            for yard in ((0,), (0, 1), (0, 2), (2,)):
                self.assertIs(setting.fits_tape(deeds[:at] + [("yard", yard)] + deeds[at:] + rest), False)
            self.assertIs(setting.fits_tape(deeds[:at] + [("yard", (1, 2))] + deeds[at + 1:]), False)
        self.assertIs(setting.fits_tape(deeds[::-1]), False)
        self.assertIs(setting.fits_tape(rest), False)
        self.assertIs(setting.fits_tape([("yard", (0,))] + deeds), False)
        self.assertIs(setting_of(yards=[(1,)]).fits_tape(rest), True)
        self.assertIs(setting_of(yards=[(1,)]).fits_tape([]), True)
        self.assertIs(setting_of(yards=[(1,)]).fits_tape([("yard", (1,))]), False)

    def test_the_tape_stays_as_it_was(self):
        deeds = setting_of().yard_deeds() + [("finish",)]
        before = list(deeds)
        setting_of().fits_tape(deeds)
        self.assertEqual(deeds, before)


class EqualTest(unittest.TestCase):

    def test_equal(self):
        for kind in KIND_NAMES:
            self.assertEqual(setting_of(kind), setting_of(kind))
        other = setting_of(crew=Crew([("x", "m"), ("y", "m"), ("z", "n")]), scheme=Scheme([(("make", "n"), ())]), yards=tuple(YARDS))
        self.assertEqual(setting_of(), other)
        self.assertIs(setting_of() == other, True)

    def test_not_equal(self):
        setting = setting_of()
        others = [setting_of("bag"), setting_of(crew=Crew([("x", "m"), ("y", "m"), ("z", "m")])), setting_of(scheme=Scheme([])),
                  setting_of(yards=YARDS[:3]), setting_of(yards=YARDS[::-1]), setting_of(sheet=("place", "forward", True)),
                  setting_of(sheet=("count", "forward", False)), setting_of(again=True), None, "list", 0, SCHEME]
        for other in others:
            self.assertIs(setting == other, False)
            self.assertIs(setting != other, True)

    def test_at_random(self):
        source = random.Random(71)
        rows = [(source.choice(KIND_NAMES[:2]), source.choice(SHEETS[:2]), source.random() < 0.5, tuple(source.choice(YARDS) for _ in range(2)))
                for _ in range(60)]
        for one in rows:
            for other in rows:
                left, right = [setting_of(row[0], yards=row[3], sheet=row[1], again=row[2]) for row in (one, other)]
                self.assertIs(left == right, one == other)


if __name__ == "__main__":
    unittest.main()
