"""What the parts of the program say of one another, at drawn inputs, and the numbers up to which all of it holds (0.5)."""

import itertools
import random
import unittest

from movedstates.accounts import account, front, owed
from movedstates.badruns import bad_run
from movedstates.crews import Crew
from movedstates.cuts import CutNet, resume
from movedstates.desks import Desk
from movedstates.holdings import Holding
from movedstates.judging import judged
from movedstates.kinds import KIND_NAMES, plain_value
from movedstates.listings import desk_listing, plan_listing
from movedstates.narrowing import narrowed
from movedstates.nets import Net
from movedstates.partings import parting
from movedstates.plainruns import plain_board
from movedstates.plans import cheapest
from movedstates.runs import Run, run
from movedstates.schemes import Scheme
from movedstates.sessions import told_sessions
from movedstates.sheets import SHEETS, Setting
from movedstates.sound import sound_settings, why_not
from movedstates.tallies import moved_counts, tally
from movedstates.tapes import read_tape, write_tape
from movedstates.trials import tried
from tests.cutnets import seen_cut_net
from tests.desks import RandomDeeds, random_desk, seen_desk
from tests.nets import ALL, SAFE, is_disjoint, plain_behind, random_net, random_tape, random_weaving, random_world
from tests.owners import random_yard
from tests.settings import fitting_tape, random_place, settings_of


class PlainRunsAndNetsTest(unittest.TestCase):

    def test_safe_nets_of_texts(self):
        source = random.Random(1)
        for row in SAFE * 3:
            net = random_net(source, row)
            tape = random_tape(source, net)
            text = write_tape(tape)
            self.assertEqual(read_tape(text), tape)
            due = plain_board(row[0], read_tape(text), gap=net.gap)
            ended = run(net, read_tape(text), random_weaving(source))
            self.assertEqual([ended.net.board, ended.net.board.listing()], [due, due.listing()])

    def test_sessions_that_are_told_are_on_the_board_or_owed(self):
        source = random.Random(2)
        for row in SAFE * 3:
            one = Run(random_net(source, row), [])
            one.deeds = random_tape(source, one.net)
            one.follow(random_weaving(source))
            net = one.net
            for key in net.routing.rankings:
                told = told_sessions(net.kind, net.gate.letters_of(key), net.gate.mark_of(key), gap=net.gap)
                self.assertEqual(net.board.reports_of(key) + owed(net, key), [(key, *session[2:]) for session in told])

    def test_kinds_under_list_see_the_same_narrowed(self):
        source = random.Random(3)
        compared = 0
        for kind in ("bag", "set", "heads", "tails"):
            for _ in range(40):
                sheet, again = ("place", source.choice(("forward", "drop")), source.random() < 0.5), source.random() < 0.5
                if not is_disjoint(kind, sheet, again):
                    continue
                world = random_world(source)
                one, other = [Net(name, sheet=sheet, again=again, **world) for name in ("list", kind)]
                first, second = Run(one, random_tape(source, one)), Run(other, [])
                second.deeds = list(first.deeds)
                for choice in random_weaving(source, 60):
                    self.assertEqual(first.step(choice), second.step(choice))
                    for mine, theirs in zip(first.net.workers, second.net.workers):
                        self.assertEqual({key: narrowed(mine.live[key], kind) for key in mine.live}, theirs.live)
                        self.assertEqual({key: narrowed(mine.kept[key], kind) for key in mine.kept}, theirs.kept)
                    rows = [(key, low, high, plain_value(kind, value)) for key, low, high, value in first.net.board.rows()]
                    self.assertEqual(rows, second.net.board.rows())
                    compared += sum(len(worker.live) for worker in second.net.workers)
        self.assertGreater(compared, 500)

    def test_split_messages_make_no_difference_at_the_end(self):
        source = random.Random(4)
        splits = 0
        for row in [row for row in SAFE if row[1][0] == "place"] * 4:
            net = random_net(source, row)
            tape = random_tape(source, net)
            one = Run(net, tape)
            for choice in random_weaving(source, 60):
                one.step(choice)
                places = [at for at, message in enumerate(one.net) if message.body[0] == "holding"]
                if places:
                    splits += one.net.split_at(source.choice(places)) > 1
            one.end()
            self.assertEqual(one.net.board, plain_behind(net, one.deeds).board)
        self.assertGreater(splits, 30)

    def test_texts_of_live_holdings_and_unequal_ones(self):
        source = random.Random(5)
        parted = 0
        for kind in KIND_NAMES:
            for _ in range(10):
                one = Run(random_net(source, (kind, SHEETS[source.randrange(4)], False), keys="ab"), [])
                one.deeds = random_tape(source, one.net)
                one.follow(random_weaving(source))
                live = [holding for worker in one.net.workers for holding in worker.live.values()]
                for holding in live:
                    self.assertEqual(Holding.read(holding.write()), holding)
                    for other in live:
                        self.assertEqual(parting(holding, other) is None, holding == other)
                        parted += holding != other
        self.assertGreater(parted, 30)


class SettingsTest(unittest.TestCase):

    def test_each_setting_has_only_good_runs_or_a_bad_one(self):
        source = random.Random(6)
        bad = good = 0
        for _ in range(12):
            place = random_place(source)
            found = sound_settings(*place)
            self.assertEqual(len(found), sum(why_not(setting) is None for setting in settings_of(*place)))
            for setting in source.sample(settings_of(*place), 30):
                named = (setting.kind, setting.sheet, setting.again)
                worst = bad_run(setting)
                self.assertEqual(worst is None, named in found)
                gap = source.randint(0, 4)
                if worst is not None:
                    bad += 1
                    self.assertIs(judged(setting, *worst, gap=gap).agrees, False)
                else:
                    good += 1
                    crew = setting.crew
                    rankings = {key: source.sample(range(len(crew)), len(crew)) for key in "ab"}
                    judgement = judged(setting, rankings, fitting_tape(source, setting), random_weaving(source), gap=gap)
                    self.assertIs(judgement.agrees, True)
        self.assertGreater(min(bad, good), 50)

    def test_counts_of_rankings_and_what_moves_in_a_net(self):
        source = random.Random(7)
        for _ in range(30):
            crew, scheme, yards = random_place(source)
            before, after = (yards * 2)[:2]
            moved, needed, needless = moved_counts(crew, scheme, before, after)
            self.assertEqual([moved, sum(count for held, count in tally(crew, scheme, [before, after]) if held[0] != held[1])],
                             [needed + needless] * 2)
            # A key for each ranking.
            rankings = dict(zip("abcdefghijklmnopqrstuvwxyz", itertools.permutations(range(len(crew)))))
            desk = Desk("set", gap=0, crew=crew, scheme=scheme, rankings=rankings, yard=before)
            for key in sorted(rankings):
                desk.event(key, 1, 5)
            desk.settle()
            self.assertEqual(desk.cost_of(after), 6 * moved)
            sent = desk.net.sent
            desk.resize(after)
            desk.settle()
            self.assertEqual(desk.net.sent - sent, 6 * moved)


class PlansAndDesksTest(unittest.TestCase):

    def test_a_plan_costs_what_the_desk_then_sends(self):
        source = random.Random(8)
        sent_at_all = 0
        for kind, sheet, again in ALL * 2:
            if sheet[0] == "count" and sheet[2] or not is_disjoint(kind, sheet, again):
                continue
            desk = random_desk(source, (kind, sheet, again), most=5)
            deeds = RandomDeeds(source, desk, falls=False)
            deeds.words = ["event"] * 6 + ["arrive"] * 6 + ["yard", "raise"]
            for _ in range(20):
                desk.take(deeds.deed(0))
            desk.settle()
            before = seen_desk(desk)
            goal = random_yard(source, desk.net.routing.crew)
            plan = desk.plan_to(goal, most=source.randint(1, 3))
            sent = desk.net.sent
            with desk.trial():
                for yard in plan.yards[1:]:
                    cost, sofar = desk.cost_of(yard), desk.net.sent
                    desk.resize(yard)
                    desk.settle()
                    self.assertEqual(desk.net.sent, sofar + cost)
                self.assertEqual([desk.net.newest, desk.net.sent], [goal, sent + plan.cost])
            self.assertGreaterEqual(plan.cost, desk.cost_of(goal))
            sent_at_all += plan.cost > 0
            self.assertEqual([seen_desk(desk), len(plan_listing(desk.net.routing.crew, plan))], [before, len(plan.yards)])
        self.assertGreater(sent_at_all, 30)

    def test_a_trial_of_the_rest_of_the_tape(self):
        source = random.Random(9)
        for row in SAFE * 3:
            desk = random_desk(source, row)
            tape = [deed for deed in random_tape(source, desk.net, finish=0)]
            half = len(tape) // 2
            for deed in tape[:half]:
                desk.take(deed)
                desk.arrive(source.randrange(99))
            before = seen_desk(desk)
            rest = tape[half:] + [("finish",)]
            returned = tried(desk, rest)
            self.assertEqual([len(returned), seen_desk(desk)], [len(rest), before])
            for deed in rest:
                desk.take(deed)
            self.assertEqual(desk.reports(), plain_board(row[0], tape, gap=desk.net.gap).rows())
            self.assertEqual([desk.missing(), desk.extra()], [[], []])


class NumbersTest(unittest.TestCase):
    """The numbers of point 0.5."""

    CREW = Crew([(name, make) for name, make in zip("uvwxyz", "aabbcc")])
    SCHEME = Scheme.read("take make a if seen make b >= 1 and seen make c < 2\ntake make b if seen any >= 2\ntake make c if seen make a >= 1")

    def world(self, source):
        return {"crew": self.CREW, "scheme": self.SCHEME, "gap": 3, "yard": (0, 1, 2, 3, 4, 5),
                "rankings": {key: source.sample(range(6), 6) for key in "abcdefgh"}}

    def tape(self, source, net):
        tape = []
        while len(tape) < 119:
            tape += random_tape(source, net, most=119 - len(tape), finish=0)
        return tape + [("finish",)]

    def test_a_long_tape_and_a_long_weaving(self):
        source = random.Random(10)
        for kind, sheet, again in (("list", SHEETS[1], True), ("bag", SHEETS[0], False), ("ends", SHEETS[1], False), ("set", SHEETS[4], False)):
            net = CutNet(kind, sheet=sheet, again=again, **self.world(source))
            tape = self.tape(source, net)
            one = Run(net, tape)
            for choice in [source.randrange(10 ** 9) for _ in range(600)]:
                one.step(choice)
            for key in "abcdefgh":
                letters, start, found = one.net.gate.letters_of(key), front(one.net, key), account(one.net, key)
                if sheet[0] == "place":
                    self.assertEqual(found, Holding.of(kind, letters, gap=3, base=start))
                else:
                    self.assertEqual([found.number, found.top], [len(letters)] * 2)
            one.end()
            self.assertEqual([len(one.deeds), one.net.board], [120, plain_behind(net, tape).board])

    def test_twenty_cuts_of_one_net(self):
        source = random.Random(11)
        net = CutNet("heads", **self.world(source))
        tape = self.tape(source, net)
        for at, deed in enumerate(tape):
            net.take(deed)
            for _ in range(3):
                if len(net):
                    net.arrive(source.randrange(len(net)))
            if at % 6 == 0 and not net.cut_open:
                net.begin_cut()
                while net.cut_open:
                    net.arrive(source.randrange(len(net)))
        self.assertEqual(len(net.cuts), 20)
        due = plain_behind(net, tape).board
        for cut in net.cuts:
            self.assertEqual(run(resume(cut), tape[cut.gate.taken:], random_weaving(source)).net.board, due)
        before = seen_cut_net(net)
        self.assertEqual(seen_cut_net(net.twin()), before)

    def test_a_letter_and_a_time_of_24_digits(self):
        far = 10 ** 24 - 1
        desk = Desk("tails", gap=10 ** 23, crew=self.CREW, scheme=self.SCHEME, rankings={"abcdefgh": [5, 4, 3, 2, 1, 0]}, yard=(5,))
        deeds = [("event", "abcdefgh", -far, far), ("event", "abcdefgh", -far + 10 ** 23, -far), ("yard", (0, 5)), ("event", "abcdefgh", far, 1),
                 ("cut",), ("raise", far), ("back", 0), ("fall", 0), ("finish",)]
        for deed in deeds:
            desk.take(deed)
        self.assertEqual(desk.reports(), [("abcdefgh", -far, -far + 10 ** 23, (far, -far)), ("abcdefgh", far, far, (1,))])
        self.assertEqual(desk_listing(desk)[-1], "under way 0, told 2, missing 0")

    def test_many_loads(self):
        source = random.Random(12)
        loads = [(source.sample(range(6), 6), 10 ** 20 + place) for place in range(800)]
        plan = cheapest(self.CREW, self.SCHEME, loads, (0, 1, 2), (3, 4, 5), most=2, least=2)
        self.assertEqual([len(plan.table), plan.cost % 10 ** 20 > 0], [57, True])

    def test_all_settings_of_six_workers_and_six_yards(self):
        source = random.Random(13)
        yards = [random_yard(source, self.CREW) for _ in range(6)]
        self.assertIn(len(sound_settings(self.CREW, self.SCHEME, yards)), (72, 34, 31))
        setting = Setting("bag", self.CREW, self.SCHEME, yards, again=True)
        self.assertEqual(why_not(setting), "twice")


if __name__ == "__main__":
    unittest.main()
