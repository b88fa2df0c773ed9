"""Desks: a net and the plain run beside it, with cuts and trials."""

from movedstates.accounts import account
from movedstates.costs import loads_of, step_cost
from movedstates.cuts import CutNet, resume
from movedstates.errors import Finished, NoCut
from movedstates.falls import fall
from movedstates.judging import reports_without
from movedstates.plainruns import PlainRun
from movedstates.plans import cheapest
from movedstates.trials import Trial, tried


class Desk:
    """A cut net, its mirror, and its cuts."""

    def __init__(self, kind, *, gap, crew, scheme, rankings, yard, sheet=("place", "forward", False), again=False):
        self.net = CutNet(kind, gap=gap, crew=crew, scheme=scheme, rankings=rankings, yard=yard, sheet=sheet,
                          again=again)
        self.mirror = PlainRun(kind, gap=gap)
        self.cuts = []
        self.mirrors = []

    @classmethod
    def over(cls, net, mirror):
        """A desk over twins of a cut net and of a plain run, without cuts."""
        routing = net.routing
        desk = cls(net.kind, gap=net.gap, crew=routing.crew, scheme=routing.scheme, rankings=routing.rankings,
                   yard=net.yards[0], sheet=net.sheet, again=net.again)
        desk.net = net.twin()
        desk.mirror = mirror.twin()
        return desk

    def twin(self):
        """A desk in the same state."""
        other = Desk.over(self.net, self.mirror)
        other.cuts = list(self.cuts)
        other.mirrors = list(self.mirrors)
        return other

    def event(self, key, time, value):
        """Takes an event; the number of its letter, or None if it is late."""
        sent = self._take_both(("event", key, time, value))
        return sent[0].body[2] if len(sent) > 0 else None

    def raise_floor(self, time):
        """Takes a raise; whether it changes the floor."""
        return len(self._take_both(("raise", time))) > 0

    def resize(self, yard):
        """Takes a yard; its number."""
        self._take_both(("yard", yard))
        return len(self.net.yards) - 1

    def finish(self):
        """Takes the finish and settles; how many messages arrived."""
        self._take_both(("finish",))
        return self.settle()

    def arrive(self, choice, *, stays=False):
        """The message that the choice takes arrives; the reports that are told."""
        if len(self.net) == 0:
            return []
        return self.net.arrive(choice % len(self.net), stays=stays)

    def settle(self):
        """All messages arrive; how many these are."""
        return self.net.settle()

    def cut(self):
        """Begins a cut and settles; the number of the cut at the desk."""
        self.net.begin_cut()
        self.settle()
        self.cuts.append(self.net.cuts[-1])
        self.mirrors.append(self.mirror.twin())
        return len(self.cuts) - 1

    def back(self, number):
        """Goes back to a cut; later ones are forgotten."""
        if not 0 <= number < len(self.cuts):
            raise NoCut(number)
        self.net = resume(self.cuts[number])
        self.mirror = self.mirrors[number].twin()
        self.cuts = self.cuts[:number + 1]
        self.mirrors = self.mirrors[:number + 1]

    def fall(self, worker):
        """Lets the worker fall without a record; the letters that are sent."""
        return fall(self.net, worker)

    def trial(self):
        """A new trial."""
        return Trial(self)

    def take(self, deed):
        """Does a deed; what its method returns."""
        word = deed[0]
        if word == "event":
            return self.event(deed[1], deed[2], deed[3])
        if word == "raise":
            return self.raise_floor(deed[1])
        if word == "yard":
            return self.resize(deed[1])
        if word == "finish":
            return self.finish()
        if word in ("arrive", "stay"):
            return self.arrive(deed[1], stays=word == "stay")
        if word == "settle":
            return self.settle()
        if word == "cut":
            return self.cut()
        if word == "back":
            return self.back(deed[1])
        if word == "fall":
            return self.fall(deed[1])
        return tried(self, deed[1])

    def reports(self):
        """The reports on the board."""
        return self.net.board.rows()

    def missing(self):
        """The reports that the mirror has told and that are not on the board."""
        return reports_without(self.mirror.board, self.net.board)

    def extra(self):
        """The reports on the board that the mirror has not told."""
        return reports_without(self.net.board, self.mirror.board)

    def account_of(self, key):
        """The account of the key."""
        return account(self.net, key)

    def cost_of(self, yard):
        """The cost of the step from the newest yard to this one."""
        routing = self.net.routing
        return step_cost(routing.crew, routing.scheme, loads_of(self.net), self.net.newest, yard)

    def plan_to(self, yard, *, most=1, least=1):
        """A plan from the newest yard to this one."""
        routing = self.net.routing
        return cheapest(routing.crew, routing.scheme, loads_of(self.net), self.net.newest, yard, most=most, least=least)

    def _take_both(self, deed):
        """The net takes the deed, then the mirror; what the net sends."""
        # A mirror that is ahead of the net would raise this too late.
        if self.mirror.gate.finished:
            raise Finished()
        sent = self.net.take(deed)
        self.mirror.take(deed)
        return sent
