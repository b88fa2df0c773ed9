"""Sound settings: points 73, 76, 77 and 78, with 57 to 60."""

import random
import unittest

from movedstates.crews import Crew
from movedstates.errors import BadYard
from movedstates.judging import judged
from movedstates.kinds import KIND_NAMES
from movedstates.schemes import Scheme
from movedstates.sheets import SHEETS, Setting
from movedstates.sound import sound, sound_settings, why_not
from movedstates.verdicts import needless
from tests.nets import random_weaving
from tests.owners import bad_yards
from tests.settings import (CREW, DOES, SCHEME, YARDS, fitting_tape, random_place, reason_by_the_words, settings_of, what_it_does)


class ReasonTest(unittest.TestCase):

    def test_all_128_settings(self):
        for name, yards in YARDS.items():
            self.assertEqual(what_it_does(CREW, SCHEME, yards), DOES[name])
            for setting in settings_of(CREW, SCHEME, yards):
                wanted = reason_by_the_words(setting.kind, setting.sheet, setting.again, *DOES[name])
                self.assertEqual(why_not(setting), wanted)
                self.assertIs(sound(setting), wanted is None)

    def test_each_reason_by_hand(self):
        rows = [
            ("list", "moves", ("place", "drop", False), False, "dropped"), ("bag", "moves", ("count", "drop", True), True, "dropped"),
            ("list", "still", ("place", "drop", False), True, None), ("list", "still", ("count", "drop", True), True, "order"),
            ("heads", "returns", ("count", "forward", True), True, "order"), ("set", "one yard", ("count", "forward", False), True, "twice"),
            ("set", "one yard", ("count", "drop", True), False, None), ("bag", "moves", ("place", "forward", False), True, "twice"),
            ("bag", "still", ("place", "forward", True), True, None), ("bag", "returns", ("place", "forward", True), True, "twice"),
            ("bag", "returns", ("place", "forward", True), False, "copies"), ("bag", "moves", ("place", "forward", True), False, None),
            ("set", "returns", ("count", "forward", True), False, "copies"), ("set", "moves", ("count", "forward", True), False, None),
            ("set", "returns", ("place", "forward", True), True, None), ("ends", "returns", ("place", "forward", True), True, None),
        ]
        for kind, name, sheet, again, wanted in rows:
            self.assertEqual(why_not(Setting(kind, CREW, SCHEME, YARDS[name], sheet=sheet, again=again)), wanted)

    def test_it_is_said_for_all_rankings_of_the_crew(self):
        # Only the ranking in which z is ahead of y moves: no other worker is taken behind x.
        crew = Crew([("x", "m"), ("y", "n"), ("z", "n")])
        still = Setting("list", crew, Scheme.read("take make m"), [(0, 1), (0, 2)], sheet=("place", "drop", False))
        self.assertIsNone(why_not(still))
        moved = Setting("list", crew, Scheme.read("take make n if seen any >= 1"), [(0, 1), (0, 1, 2)], sheet=("place", "drop", False))
        self.assertEqual(why_not(moved), "dropped")

    def test_at_random(self):
        source = random.Random(73)
        for _ in range(40):
            place = random_place(source, most=5)
            does = what_it_does(*place)
            for setting in settings_of(*place):
                if source.random() < 0.3:
                    wanted = reason_by_the_words(setting.kind, setting.sheet, setting.again, *does)
                    self.assertEqual([why_not(setting), sound(setting)], [wanted, wanted is None])


class SoundSettingsTest(unittest.TestCase):

    def test_the_example(self):
        self.assertEqual(len(sound_settings(Crew([("x", "m"), ("y", "m")]), Scheme.read("take any"), [(0,), (0, 1)])), 34)

    def test_how_many(self):
        source = random.Random(78)
        count = {72: 0, 34: 0, 31: 0}
        for _ in range(150):
            place = random_place(source, most=5)
            moves, returns = what_it_does(*place)
            many = 31 if returns else 34 if moves else 72
            self.assertEqual(len(sound_settings(*place)), many)
            count[many] += 1
        self.assertTrue(all(many > 20 for many in count.values()), count)

    def test_order(self):
        for yards in YARDS.values():
            wanted = [(setting.kind, setting.sheet, setting.again) for setting in settings_of(CREW, SCHEME, yards) if sound(setting)]
            found = sound_settings(CREW, SCHEME, yards)
            self.assertEqual(found, wanted)
            self.assertEqual(found, sorted(found, key=lambda row: (KIND_NAMES.index(row[0]), SHEETS.index(row[1]), row[2])))
        self.assertEqual(found[:3], [("list", ("place", "forward", False), False), ("list", ("place", "forward", False), True),
                                     ("list", ("place", "forward", True), False)])

    def test_a_new_list_and_arguments_as_they_were(self):
        yards = [(0,), (0, 1)]
        sound_settings(CREW, SCHEME, yards).clear()
        self.assertEqual([len(sound_settings(CREW, SCHEME, yards)), yards], [34, [(0,), (0, 1)]])

    def test_bad_yards(self):
        for yards in ([], [(0,)] * 7):
            with self.assertRaises(BadYard):
                sound_settings(CREW, SCHEME, yards)
        for yard in bad_yards(CREW):
            for yards in ([yard], [(0,), yard], [yard, (0,)]):
                with self.assertRaises(BadYard):
                    sound_settings(CREW, SCHEME, yards)
        self.assertEqual(len(sound_settings(CREW, SCHEME, [(0,)] * 6)), 72)


class ComparedTest(unittest.TestCase):

    def places(self):
        source = random.Random(76)
        return [(CREW, SCHEME, yards) for yards in YARDS.values()] + [random_place(source) for _ in range(20)]

    def test_point_76(self):
        for place in self.places():
            found = sound_settings(*place)
            for sheet in SHEETS:
                for again in (False, True):
                    if sheet[0] == "place" and ("bag", sheet, again) in found:
                        self.assertTrue(all((kind, sheet, again) in found for kind in KIND_NAMES))
                    if sheet[0] == "count":
                        self.assertEqual(("bag", sheet, again) in found, ("set", sheet, again) in found)
                        if ("bag", sheet, again) in found:
                            other = ("place",) + sheet[1:]
                            self.assertTrue(all((kind, other, again) in found for kind in ("bag", "set")))
            for kind, (joins, letters, keeps), again in found:
                for better in (((joins, "forward", keeps), again), ((joins, letters, False), again), ((joins, letters, keeps), False)):
                    self.assertIn((kind, *better), found)

    def test_point_77(self):
        still = nothing_needless = 0
        for crew, scheme, yards in self.places():
            found = sound_settings(crew, scheme, yards)
            if not what_it_does(crew, scheme, yards)[0]:
                still += 1
                for setting in settings_of(crew, scheme, yards):
                    wanted = setting.sheet[0] == "place" or (setting.kind in ("bag", "set") and not setting.again)
                    self.assertEqual((setting.kind, setting.sheet, setting.again) in found, wanted)
            pairs = list(zip(yards, yards[1:]))
            nested = all(set(one) <= set(other) for one, other in pairs) or all(set(one) >= set(other) for one, other in pairs)
            if nested and needless(crew, scheme, yards).holds:
                nothing_needless += 1
                for kind, (joins, letters, keeps), again in found:
                    self.assertIn((kind, (joins, letters, not keeps), again), found)
        self.assertGreater(min(still, nothing_needless), 4)


class RunsTest(unittest.TestCase):

    def test_runs_of_sound_settings_agree(self):
        source = random.Random(730)
        reports = 0
        for _ in range(30):
            crew, scheme, yards = random_place(source)
            for kind, sheet, again in sound_settings(crew, scheme, yards):
                setting = Setting(kind, crew, scheme, yards, sheet=sheet, again=again)
                rankings = {key: source.sample(range(len(crew)), len(crew)) for key in "ab"}
                found = judged(setting, rankings, fitting_tape(source, setting), random_weaving(source, 60), gap=source.randint(0, 3))
                self.assertIs(found.agrees, True)
                reports += len(found.board)
        self.assertGreater(reports, 1000)


if __name__ == "__main__":
    unittest.main()
