"""Nets: keys that move from worker to worker while messages are under way."""

from movedstates.boards import Board
from movedstates.checks import checked_kind
from movedstates.counters import Counter
from movedstates.errors import BadSheet, Finished, NoMessage, NotAgain, UnknownName
from movedstates.gates import Gate
from movedstates.holders import refuse_yard
from movedstates.holdings import Holding
from movedstates.messages import Message, Routing
from movedstates.placers import Placer, is_sheet
from movedstates.splits import parts_of


class Net:
    """A gate, a board, the workers of a crew, and the messages that are under way."""

    def __init__(self, kind, *, gap, crew, scheme, rankings, yard, sheet=("place", "forward", False), again=False):
        checked_kind(kind, gap)
        routing = Routing(crew, scheme, rankings)
        refuse_yard(crew, yard)
        if not is_sheet(sheet):
            raise BadSheet()
        self.kind = kind
        self.gap = gap
        self.routing = routing
        self.sheet = sheet
        self.again = again
        self.gate = Gate()
        self.board = Board()
        self.sent = 0
        self.yards = [tuple(yard)]
        self.workers = [worker_at_first(worker, kind, routing, gap, yard, sheet) for worker in range(len(crew))]
        self.underway = []
        self.unclear = []
        self.dropped = []

    @property
    def newest(self):
        """The newest yard."""
        return self.yards[-1]

    def __len__(self):
        return len(self.underway)

    def __iter__(self):
        return iter(self.underway)

    def take(self, deed):
        """The gate takes the deed; the messages that it sends."""
        self._refuse_deed(deed)
        taken = self.gate.take(deed)
        if deed[0] == "event":
            return [] if taken is None else [self.post_letter(deed[1], (taken, deed[2], deed[3]))]
        if deed[0] == "yard":
            self.yards.append(tuple(deed[1]))
            return self.post_to_all(("yard",))
        if deed[0] == "raise" and not taken:
            return []
        return self.post_to_all(("mark",) + watermark_of(self.gate))

    def arrive(self, place, *, stays=False):
        """The message at this index arrives; the reports that the worker tells."""
        self.refuse_arrival(place, stays)
        message = self.underway[place]
        at = message.to
        worker = self.workers[at]
        outcome = worker.receive(message)
        if not stays:
            del self.underway[place]
        cut_number = self._cut_number_at(at)
        messages = [Message(to, worker.number, worker.yard, body, hops=hops, cut_number=cut_number)
                    for to, body, hops in outcome.sends]
        self.underway.extend(messages)
        # Whatever is not sent on is a holding that is sent for the first time.
        self.sent = self.sent + sum([message.body[2].size for message in messages if message.hops == 0])
        for report in outcome.told:
            self.board.take(report)
        self.unclear.extend([(at, key) for key in outcome.unclear])
        self.dropped.extend([(at, key, letter) for key, letter in outcome.dropped])
        return outcome.told

    def split_at(self, place):
        """Splits the message with a holding at this index; how many parts it has."""
        self._refuse_place(place)
        message = self.underway[place]
        body = message.body
        if body[0] != "holding" or not isinstance(body[2], Holding):
            raise NoMessage(place)
        parts = [Message(message.to, message.number, message.yard, ("holding", body[1], part), hops=message.hops,
                         cut_number=message.cut_number) for part in parts_of(body[2])]
        self.underway[place:place + 1] = parts
        return len(parts)

    def settle(self):
        """All messages arrive, always the oldest; how many these are."""
        many = 0
        while len(self.underway) > 0:
            self.arrive(0)
            many = many + 1
        return many

    def twin(self):
        """A net in the same state."""
        routing = self.routing
        other = Net(self.kind, gap=self.gap, crew=routing.crew, scheme=routing.scheme, rankings=routing.rankings,
                    yard=self.yards[0], sheet=self.sheet, again=self.again)
        self._copy_to(other)
        return other

    def post(self, to, body):
        """The gate sends a message with this body to a worker; the message."""
        message = Message(to, len(self.yards) - 1, self.newest, body, cut_number=self._cut_number_of_gate())
        self.underway.append(message)
        return message

    def post_to_all(self, body):
        """The gate sends this body to each worker; the messages."""
        return [self.post(worker, body) for worker in range(len(self.workers))]

    def post_letter(self, key, letter):
        """The gate sends a letter to the holder of its key; the message."""
        return self.post(self.routing.holder_of(key, self.newest), ("letter", key) + letter)

    def refuse_arrival(self, place, stays):
        """Raises NoMessage if no message is there, then NotAgain if it may not stay."""
        self._refuse_place(place)
        if stays and not self.again:
            raise NotAgain()

    def _refuse_place(self, place):
        if not 0 <= place < len(self.underway):
            raise NoMessage(place)

    def _refuse_deed(self, deed):
        if self.gate.finished:
            raise Finished()
        if deed[0] == "event" and deed[1] not in self.routing.rankings:
            raise UnknownName(deed[1])
        if deed[0] == "yard":
            refuse_yard(self.routing.crew, deed[1])

    def _copy_to(self, other):
        """Gives a net with the same settings the same state."""
        other.routing = self.routing
        other.gate = self.gate.twin()
        other.board = self.board.twin()
        other.sent = self.sent
        other.yards = list(self.yards)
        other.workers = [worker.twin() for worker in self.workers]
        other.underway = list(self.underway)
        other.unclear = list(self.unclear)
        other.dropped = list(self.dropped)

    def _cut_number_of_gate(self):
        """The cut number of what the gate sends."""
        return 0

    def _cut_number_at(self, worker):
        """The cut number of what the worker sends."""
        return 0


def worker_at_first(worker, kind, routing, gap, yard, sheet):
    """A worker of the class that the sheet needs, as it is at first."""
    if sheet[0] == "count":
        return Counter(worker, kind, routing, gap=gap, yard=yard, sheet=sheet)
    return Placer(worker, kind, routing, gap=gap, yard=yard, sheet=sheet)


def watermark_of(gate):
    """The last watermark that the gate has given, as it was given; None if it has given none."""
    if gate.floor is None and not gate.finished:
        return None
    floor = None if gate.finished else gate.floor
    counts = [(key, gate.mark_of(key)[0]) for key in gate.known()]
    # A key that had no letters yet has the count 0 in its mark.
    return floor, tuple([(key, count) for key, count in counts if count > 0])
