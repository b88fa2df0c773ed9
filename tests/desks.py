"""What the tests of desks need: all that they are made of, deeds at random, and a desk straight from point 96."""

from movedstates.cuts import resume
from movedstates.desks import Desk
from movedstates.falls import fall
from tests.cutnets import seen_cut, seen_cut_net
from tests.nets import random_net, seen_gate
from tests.owners import random_yard


def seen_plain(plain):
    return [plain.kind, plain.gap, seen_gate(plain.gate), plain.board.rows(), plain.board.repeats]


def seen_desk(desk):
    return [seen_cut_net(desk.net), seen_plain(desk.mirror), [seen_cut(cut) for cut in desk.cuts],
            [seen_plain(mirror) for mirror in desk.mirrors]]


def answers(desk, yards):
    """What the desk says to all questions but those about its cuts."""
    keys = sorted(desk.net.routing.rankings)
    accounts = [desk.account_of(key) for key in keys] if desk.net.sheet[0] == "place" and desk.net.kind != "bag" else []
    costs = [desk.cost_of(yard) for yard in yards]
    tables = [desk.plan_to(yard).table for yard in yards]
    return [desk.reports(), desk.missing(), desk.extra(), accounts, costs, tables]


def random_desk(random, row, **more):
    return random_net(random, row, made=Desk, **more)


class RandomDeeds:
    """Deeds for a desk, as point 97 writes them, with times that go up."""

    def __init__(self, random, desk, *, falls=True):
        self.random, self.time = random, 0
        self.keys, self.crew = sorted(desk.net.routing.rankings), desk.net.routing.crew
        self.words = ["event"] * 5 + ["arrive"] * 8 + ["raise", "yard", "yard", "settle", "cut", "cut", "back"]
        self.words += ["stay"] * 3 * desk.net.again + ["fall"] * (falls and desk.net.sheet[0] == "place")

    def deed(self, cuts):
        """One for a desk with so many cuts."""
        self.time += self.random.choice((0, 0, 1, 2, 4))
        word = self.random.choice(self.words)
        if word == "event":
            return word, self.random.choice(self.keys), self.time + self.random.choice((-2, 0, 0, 0)), self.random.randint(5, 7)
        if word == "raise":
            return word, self.time + self.random.choice((-2, -1, 0))
        if word == "yard":
            return word, random_yard(self.random, self.crew)
        if word in ("arrive", "stay"):
            return word, self.random.randrange(10 ** 6)
        if word == "fall":
            return word, self.random.randrange(len(self.crew))
        if word == "back":
            return (word, self.random.randrange(cuts)) if cuts else ("settle",)
        return (word,)


class DeskByTheWords:

    def __init__(self, desk):
        """One in the state of the desk, with its cuts."""
        self.net, self.mirror = desk.net.twin(), desk.mirror.twin()
        self.cuts = list(zip(desk.cuts, desk.mirrors))

    def settle(self):
        many = 0
        while self.net.underway:
            self.net.arrive(0)
            many += 1
        return many

    def take(self, deed):
        word, *rest = deed
        if word in ("event", "raise", "yard", "finish"):
            sent = self.net.take(deed)
            self.mirror.take(deed)
            if word == "event":
                return self.net.gate.count_of(rest[0]) - 1 if sent else None
            if word == "raise":
                return sent != []
            return len(self.net.yards) - 1 if word == "yard" else self.settle()
        if word in ("arrive", "stay"):
            if not self.net.underway:
                return []
            return self.net.arrive(rest[0] % len(self.net.underway), stays=word == "stay")
        if word == "settle":
            return self.settle()
        if word == "cut":
            self.net.begin_cut()
            self.settle()
            self.cuts.append((self.net.cuts[-1], self.mirror.twin()))
            return len(self.cuts) - 1
        if word == "back":
            cut, mirror = self.cuts[rest[0]]
            self.cuts = self.cuts[:rest[0] + 1]
            self.net, self.mirror = resume(cut), mirror.twin()
            return None
        if word == "fall":
            return fall(self.net, rest[0])
        before = [self.net, self.mirror, self.cuts]
        self.net, self.mirror, self.cuts = self.net.twin(), self.mirror.twin(), list(self.cuts)
        returned = [self.take(one) for one in rest[0]]
        self.net, self.mirror, self.cuts = before
        return returned

    def seen(self):
        return [seen_cut_net(self.net), seen_plain(self.mirror), [seen_cut(cut) for cut, _ in self.cuts],
                [seen_plain(mirror) for _, mirror in self.cuts]]
