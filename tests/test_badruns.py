"""Bad runs: point 74, with 72 and 73."""

import random
import unittest

from movedstates.badruns import bad_run
from movedstates.crews import Crew
from movedstates.judging import judged
from movedstates.kinds import KIND_NAMES, plain_value
from movedstates.schemes import Scheme
from movedstates.sheets import SHEETS, Setting
from movedstates.sound import sound, why_not
from tests.helpers import words_up_to
from tests.settings import CREW, SCHEME, YARDS, random_place, settings_of

GAPS = (0, 1, 5, 10 ** 20)


class BadRunTest(unittest.TestCase):

    def check(self, setting):
        """Whether the bad run of the setting is as point 74 says; its reason."""
        why = why_not(setting)
        found = bad_run(setting)
        if why is None:
            self.assertIsNone(found)
            return why
        rankings, tape, weaving = found
        self.check_form(setting, rankings, tape, weaving)
        for gap in GAPS:
            judgement = judged(setting, rankings, tape, weaving, gap=gap)
            self.assertIs(judgement.agrees, False)
            if why == "dropped":
                self.assertNotEqual(judgement.missing(), [])
            elif why == "order":
                self.check_order(setting.kind, judgement)
            elif setting.sheet[0] == "count":
                self.assertNotEqual(judgement.missing(), [])
            else:
                self.assertNotEqual(judgement.unclear, [])
        return why

    def check_form(self, setting, rankings, tape, weaving):
        self.assertIs(type(rankings), dict)
        self.assertIs(type(tape), list)
        self.assertIs(type(weaving), list)
        self.assertIs(setting.fits_tape(tape), True)
        events = [deed for deed in tape if deed[0] == "event"]
        self.assertIn(len(events), (1, 2, 3))
        self.assertEqual({deed[2] for deed in events}, {0})
        self.assertEqual([deed[1] for deed in events], list(rankings) * len(events))
        for ranking in rankings.values():
            self.assertIn(type(ranking), (list, tuple))
            self.assertEqual(sorted(ranking), list(range(len(setting.crew))))
        for choice in weaving:
            self.assertIs(type(choice), int)
            self.assertGreaterEqual(choice, 0)

    def check_order(self, kind, judgement):
        self.assertEqual([len(judgement.board), len(judgement.due)], [1, 1])
        (report,), (due,) = judgement.board.rows(), judgement.due.rows()
        self.assertEqual(report[:3], due[:3])
        self.assertNotEqual(report[3], due[3])
        words = [word for word in words_up_to(2, sorted({*report[3], *due[3]})) if len(word) == 2]
        self.assertTrue(any(plain_value(kind, word) == report[3] and plain_value(kind, word[::-1]) == due[3] for word in words))
        self.assertEqual(judgement.parted()[:2], (report, due))

    def test_each_kind_and_sheet_that_a_reason_can_come_with(self):
        seen = {}
        for yards in YARDS.values():
            for setting in settings_of(CREW, SCHEME, yards):
                why = self.check(setting)
                seen.setdefault(why, set()).add((setting.kind, setting.sheet))
        self.assertEqual(seen["dropped"], {(kind, sheet) for kind in KIND_NAMES for sheet in SHEETS if sheet[1] == "drop"})
        self.assertEqual(seen["order"], {(kind, sheet) for kind in KIND_NAMES for sheet in SHEETS
                                         if sheet[0] == "count" and kind not in ("bag", "set")})
        counts = {(kind, sheet) for kind in ("bag", "set") for sheet in SHEETS if sheet[0] == "count"}
        self.assertEqual(seen["twice"], counts | {("bag", ("place", "forward", keeps)) for keeps in (False, True)})
        self.assertEqual(seen["copies"], {("bag", ("place", "forward", True)), ("bag", ("count", "forward", True)),
                                          ("set", ("count", "forward", True))})

    def test_crews_and_yards_at_random(self):
        source = random.Random(74)
        seen = {}
        for _ in range(60):
            settings = settings_of(*random_place(source, most=source.choice((3, 4, 5, 6))))
            # Those that copies can do harm to, and some others.
            copies = [setting for setting in settings if setting.sheet[1:] == ("forward", True) and not setting.again
                      and (setting.kind == "bag" or setting.kind == "set" and setting.sheet[0] == "count")]
            for setting in copies + source.sample(settings, 9):
                why = self.check(setting)
                seen[why] = seen.get(why, 0) + 1
        self.assertEqual(set(seen), {None, "copies", "dropped", "order", "twice"})
        self.assertTrue(all(many > 10 for many in seen.values()), seen)

    def test_holders_that_come_and_go_between(self):
        # The first holder comes back behind others, one of which comes back, too.
        crew = Crew([(name, "m") for name in "uvwxyz"])
        lists = [[(0,), (1,), (2,), (1,), (0,)], [(3,), (4,), (0,), (1,), (2,), (0,)], [(0, 1, 2, 3, 4, 5), (1,), (1,), (2,), (0, 1)],
                 [(0,), (0,), (1,), (1,), (0,), (0,)], [(0,), (1,), (0,), (1,), (0,), (1,)], [(5,), (0,), (1,), (2,), (3,), (0, 4)]]
        for yards in lists:
            for setting in settings_of(crew, Scheme([]), yards):
                if setting.kind in ("bag", "set", "ends") and setting.sheet[1] == "forward":
                    self.check(setting)

    def test_six_workers_and_six_yards_with_bounds(self):
        crew = Crew([("u", "a"), ("v", "a"), ("w", "b"), ("x", "b"), ("y", "c"), ("z", "c")])
        scheme = Scheme.read("take make a if seen make b >= 1 and seen make c < 2\ntake make b if seen any >= 2\ntake make c")
        yards = [(0, 1, 2), (0, 1, 2, 3), (2, 3, 4, 5), (0, 5), (0, 1, 2, 3, 4, 5), (1,)]
        for setting in settings_of(crew, scheme, yards):
            if setting.kind in ("bag", "set", "heads"):
                self.check(setting)

    def test_sound_settings_have_none(self):
        for yards in YARDS.values():
            for setting in settings_of(CREW, SCHEME, yards):
                self.assertEqual(bad_run(setting) is None, sound(setting))

    def test_the_setting_stays_as_it_was_and_the_run_is_a_new_one(self):
        setting = Setting("bag", CREW, SCHEME, YARDS["returns"], again=True)
        other = Setting("bag", CREW, SCHEME, YARDS["returns"], again=True)
        for part in bad_run(setting):
            part.clear()
        self.assertEqual(setting, other)
        self.check(setting)


if __name__ == "__main__":
    unittest.main()
