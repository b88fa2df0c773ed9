"""Workers that place letters by their numbers."""

from movedstates.checks import checked_kind
from movedstates.errors import BadSheet, Unclear
from movedstates.holders import refuse_yard
from movedstates.holdings import Holding
from movedstates.messages import mark_for, newer
from movedstates.ripening import tell
from movedstates.unions import unite


class Outcome:
    """What an arrival does."""

    def __init__(self):
        self.sends = []
        self.told = []
        self.unclear = []
        self.dropped = []


class Placer:
    """A worker that keeps holdings."""

    JOINS = "place"

    def __init__(self, worker, kind, routing, *, gap, yard, sheet=("place", "forward", False)):
        checked_kind(kind, gap)
        refuse_yard(routing.crew, yard)
        if not is_sheet(sheet) or sheet[0] != self.JOINS:
            raise BadSheet()
        self.worker = worker
        self.kind = kind
        self.routing = routing
        self.gap = gap
        self.yard = tuple(yard)
        self.sheet = sheet
        self.number = 0
        self.watermark = None
        self.live = {}
        self.kept = {}

    def twin(self):
        """A worker in the same state."""
        other = Placer(self.worker, self.kind, self.routing, gap=self.gap, yard=self.yard, sheet=self.sheet)
        self._copy_to(other)
        return other

    def is_holder(self, key):
        """Whether the worker holds the key by the newest yard that it knows."""
        return self.routing.holder_of(key, self.yard) == self.worker

    def receive(self, message):
        """Does what the arrival of the message does at the worker."""
        outcome = Outcome()
        body = message.body
        if message.number > self.number:
            self._change_yard(message.number, message.yard, outcome)
        if body[0] == "mark" and newer((body[1], body[2]), self.watermark):
            self.watermark = (body[1], body[2])
        if body[0] in ("letter", "holding"):
            if self.is_holder(body[1]):
                self._join(body, outcome)
            else:
                self._pass_on(body, message.hops, outcome)
        self._tell_all(outcome)
        return outcome

    def _copy_to(self, other):
        """Gives a worker of the same kind the same state."""
        other.number = self.number
        other.watermark = self.watermark
        other.live = dict(self.live)
        other.kept = dict(self.kept)

    def _change_yard(self, number, yard, outcome):
        """Takes over a yard, sends what is no longer held, and takes up what was kept."""
        self.number = number
        self.yard = tuple(yard)
        lost = [key for key in sorted(self.live) if not self.is_holder(key)]
        for key in lost:
            holding = self.live.pop(key)
            outcome.sends.append((self.routing.holder_of(key, self.yard), ("holding", key, holding), 0))
            if self.sheet[2]:
                self.kept[key] = holding
        back = [key for key in sorted(self.kept) if self.is_holder(key)]
        for key in back:
            self.live[key] = self.kept.pop(key)

    def _join(self, body, outcome):
        """Joins a letter or a holding to the live holding of its key."""
        key = body[1]
        live = self.live[key] if key in self.live else self._nothing()
        try:
            if body[0] == "letter":
                self.live[key] = live.put(body[2], body[3], body[4])
            else:
                self.live[key] = self._joined(live, body[2])
        except Unclear:
            outcome.unclear.append(key)

    def _pass_on(self, body, hops, outcome):
        """Sends on a letter or a holding of a key that is not held, or throws the letter away."""
        key = body[1]
        if body[0] == "letter" and self.sheet[1] == "drop":
            outcome.dropped.append((key, (body[2], body[3], body[4])))
        else:
            outcome.sends.append((self.routing.holder_of(key, self.yard), body, hops + 1))

    def _tell_all(self, outcome):
        """Tells each live holding."""
        keys = sorted(self.live)
        for key in keys:
            told, self.live[key] = self._tell_one(self.live[key], mark_for(self.watermark, key))
            outcome.told.extend([(key, first, last, value) for first, last, value in told])

    def _nothing(self):
        """What is live before anything has come."""
        return Holding.empty(self.kind, gap=self.gap)

    def _joined(self, live, arrived):
        """What is live behind a holding that arrived."""
        return unite(live, arrived)

    def _tell_one(self, live, mark):
        """First and last time and value of each told session, and what is left."""
        sessions, left = tell(live, mark)
        return [session[2:] for session in sessions], left


def is_sheet(sheet):
    """Whether this, whatever it is, is one of the eight sheets."""
    if not isinstance(sheet, tuple) or len(sheet) != 3:
        return False
    joins, letters, keeps = sheet
    if not isinstance(joins, str) or not isinstance(letters, str) or not isinstance(keeps, bool):
        return False
    return joins in ("place", "count") and letters in ("forward", "drop")
