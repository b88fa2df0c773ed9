"""What holds at desks whatever is done, and behind going back: points 98 and 99."""

import random
import unittest

from movedstates.accounts import account, front
from movedstates.cuts import CutNet
from movedstates.desks import Desk
from movedstates.holdings import Holding
from movedstates.kinds import KIND_NAMES
from movedstates.plainruns import PlainRun
from movedstates.sessions import cut_sessions
from tests.cutnets import seen_cut_net
from tests.desks import RandomDeeds, answers, random_desk, seen_desk, seen_plain
from tests.nets import is_disjoint, random_tape, random_world
from tests.owners import random_yard

ROWS = [(kind, ("place", "forward", keeps), again) for kind in KIND_NAMES for keeps in (False, True) for again in (False, True)
        if is_disjoint(kind, ("place", "forward", keeps), again)]


def desk_over(source, row):
    """A desk over an unbroken net and a mirror that have taken the same deeds."""
    kind, sheet, again = row
    world = random_world(source, keys="ab")
    net, mirror = CutNet(kind, sheet=sheet, again=again, **world), PlainRun(kind, gap=world["gap"])
    for deed in random_tape(source, net, finish=0):
        net.take(deed)
        mirror.take(deed)
        for _ in range(source.randint(0, 3)):
            if len(net):
                net.arrive(source.randrange(len(net)))
        if source.random() < 0.1:
            net.begin_cut()
            net.settle()
    return Desk.over(net, mirror)


class WhateverIsDoneTest(unittest.TestCase):

    def test_at_every_moment(self):
        source = random.Random(980)
        count = {"rest": 0, "unbroken": 0, "below the front": 0, "reports": 0}
        for row in ROWS * 5:
            desk = source.choice((random_desk(source, row, keys="ab"), desk_over(source, row)))
            deeds = RandomDeeds(source, desk)
            deeds.time = max([letter[1] for key in "ab" for letter in desk.net.gate.letters_of(key)], default=0)
            unbroken, at_cuts = True, []
            for _ in range(40):
                deed = deeds.deed(len(desk.cuts))
                desk.take(deed)
                if deed[0] == "fall":
                    unbroken = False
                if deed[0] == "cut":
                    at_cuts.append(unbroken)
                if deed[0] == "back":
                    unbroken, at_cuts = at_cuts[deed[1]], at_cuts[:deed[1] + 1]
                self.one_moment(desk, unbroken, count)
            desk.finish()
            self.one_moment(desk, unbroken, count)
            self.all_sessions(desk)
            count["reports"] += len(desk.reports())
        self.assertTrue(all(many > 30 for many in count.values()), count)

    def one_moment(self, desk, unbroken, count):
        net = desk.net
        rest = len(net) == 0
        self.assertEqual(desk.extra(), [])
        if rest:
            self.assertEqual(desk.missing(), [])
            self.assertEqual(net.board, desk.mirror.board)
        for key in net.routing.rankings:
            found, letters = desk.account_of(key), net.gate.letters_of(key)
            self.assertEqual(found, account(net, key))
            base = front(net, key)
            if rest or unbroken:
                count["rest" if rest else "unbroken"] += 1
            else:
                self.assertLessEqual(found.base, base)
                count["below the front"] += found.base < base
                base = found.base
            self.assertEqual(found, Holding.of(net.kind, letters, gap=net.gap, base=base))

    def all_sessions(self, desk):
        net = desk.net
        due = [(key, *session[2:]) for key in sorted(net.routing.rankings)
               for session in cut_sessions(net.kind, net.gate.letters_of(key), gap=net.gap)]
        self.assertEqual(desk.reports(), due)
        self.assertEqual([desk.missing(), desk.extra()], [[], []])


class BackTest(unittest.TestCase):

    def seen_but_cuts(self, desk):
        """The net and the mirror; what is noted in the net of its cuts is as long as that of the other desk."""
        return [seen_cut_net(desk.net), seen_plain(desk.mirror)]

    def shifted(self, deed, returned, many):
        """The deed and what it returned, with the numbers of cuts of a desk that has so many fewer of them."""
        if deed[0] == "back":
            return ("back", deed[1] - many), returned
        return deed, returned - many if deed[0] == "cut" else returned

    def test_as_at_a_desk_over_the_net_that_goes_on(self):
        source = random.Random(990)
        backs = 0
        for row in ROWS * 4 + [(kind, ("count", "forward", False), False) for kind in ("bag", "set", "list")] * 4:
            desk = random_desk(source, row, keys="ab")
            deeds = RandomDeeds(source, desk)
            for _ in range(25):
                desk.take(deeds.deed(len(desk.cuts)))
            if not desk.cuts:
                continue
            number = source.randrange(len(desk.cuts))
            desk.back(number)
            other = Desk.over(desk.net, desk.mirrors[number])
            backs += 1
            for _ in range(25):
                deed = deeds.deed(len(desk.cuts))
                if deed[0] == "back" and deed[1] <= number:
                    continue
                mine = desk.take(deed)
                deed, mine = self.shifted(deed, mine, number + 1)
                self.assertEqual(other.take(deed), mine)
                self.assertEqual(self.seen_but_cuts(desk), self.seen_but_cuts(other))
                yards = [random_yard(source, desk.net.routing.crew)]
                self.assertEqual(answers(desk, yards), answers(other, yards))
            self.assertEqual(seen_desk(desk)[2][number + 1:], seen_desk(other)[2])
        self.assertGreater(backs, 60)


if __name__ == "__main__":
    unittest.main()
