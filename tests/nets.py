"""What the tests of nets need: nets, tapes and choices at random, what a net is made of, and a net straight from its points."""

import itertools

from movedstates.boards import Board
from movedstates.crews import Crew
from movedstates.gates import Gate
from movedstates.heaps import Heap
from movedstates.holdings import Holding
from movedstates.kinds import KIND_NAMES
from movedstates.messages import Message
from movedstates.nets import Net
from movedstates.plainruns import PlainRun
from movedstates.schemes import Scheme
from movedstates.splits import parts_of
from movedstates.unions import united
from tests.owners import MAKES, random_scheme, random_yard
from tests.workers import WorkerByTheWords, state

SHEETS = list(itertools.product(("place", "count"), ("forward", "drop"), (False, True)))
BAD_SHEETS = [("place", "forward", 0), ("place", "forward", 1), ("place", "forward"), ("place", "forward", False, False), (),
              ["place", "forward", False], ("forward", "place", False), ("Place", "forward", False), ("count", "drops", True),
              ("count", "forward", None), (0, 0, 0), None, 0, "place", "place forward False"]
ALL = list(itertools.product(KIND_NAMES, SHEETS, (False, True)))


def is_disjoint(kind, sheet, again):
    """Point 69."""
    return kind != "bag" or not (again or sheet[2])


def is_safe(kind, sheet, again):
    """Point 69."""
    joins, letters, keeps = sheet
    if letters != "forward":
        return False
    if joins == "place":
        return is_disjoint(kind, sheet, again)
    return not again and not keeps and kind in ("bag", "set")


SAFE = [row for row in ALL if is_safe(*row)]


def random_crew(random, least=1, most=4):
    return Crew([(name, random.choice(MAKES)) for name in "uvwxyz"[:random.randint(least, most)]])


def random_world(random, *, keys="abc", least=1, most=4):
    """A crew, a scheme, rankings, a gap and the first yard, by the names of the parameters of Net."""
    crew = random_crew(random, least, most)
    scheme = random.choice((Scheme([]), Scheme.read("take any"), random_scheme(random), random_scheme(random)))
    rankings = {key: random.sample(range(len(crew)), len(crew)) for key in keys}
    return {"crew": crew, "scheme": scheme, "rankings": rankings, "gap": random.randint(0, 3), "yard": random_yard(random, crew)}


def random_net(random, row=None, *, made=Net, **more):
    """A net whose gate has taken nothing; row is a tuple (kind, sheet, again)."""
    kind, sheet, again = row or random.choice(ALL)
    return made(kind, sheet=sheet, again=again, **random_world(random, **more))


def random_tape(random, net, *, most=14, words=("event",) * 6 + ("raise", "yard", "yard"), finish=0.3):
    """A tape for the net; its times go up slowly, so that some events are late."""
    deeds, time = [], 0
    for _ in range(random.randint(0, most)):
        time += random.choice((0, 0, 1, 1, 2, 5))
        word = random.choice(words)
        if word == "event":
            deeds.append(("event", random.choice(sorted(net.routing.rankings)), time + random.choice((-2, 0, 0, 0, 0)), random.randint(5, 7)))
        elif word == "raise":
            deeds.append(("raise", time + random.choice((-3, -1, 0, 0, 1))))
        else:
            deeds.append(("yard", random_yard(random, net.routing.crew)))
    return deeds + [("finish",)] * (random.random() < finish)


def random_weaving(random, most=40):
    return [random.randrange(10 ** 6) for _ in range(random.randint(0, most))]


def seen_message(message):
    return [message.to, message.number, message.yard, message.hops, message.cut_number, message.body]


def seen_gate(gate):
    return [gate.floor, gate.finished, {key: gate.letters_of(key) for key in gate.known()}, gate.late(),
            {key: gate.mark_of(key) for key in gate.known() + ["zzz"]}]


def seen_net(net):
    """All that point 61 gives a net."""
    return [net.kind, net.gap, net.sheet, net.again, net.routing.rankings, seen_gate(net.gate), net.board.rows(), net.board.repeats,
            net.sent, list(net.yards), [[type(worker), worker.worker, *map(copied, state(worker))] for worker in net.workers],
            [seen_message(message) for message in net.underway], list(net.unclear), list(net.dropped)]


def copied(part):
    return dict(part) if isinstance(part, dict) else part


class NetByTheWords:
    """A net straight from points 61 to 66, with the cut numbers of points 81 and 82."""

    def __init__(self, net):
        """One with the settings of a new net."""
        self.kind, self.gap, self.sheet, self.again = net.kind, net.gap, net.sheet, net.again
        self.routing, self.yards = net.routing, [net.yards[0]]
        self.gate, self.board = Gate(), Board()
        self.workers = [WorkerByTheWords(at, self.kind, self.routing, gap=self.gap, yard=self.yards[0], sheet=self.sheet)
                        for at in range(len(self.routing.crew))]
        self.underway, self.unclear, self.dropped, self.sent = [], [], [], 0
        self.cut_number, self.cut_numbers = 0, [0] * len(self.workers)

    def post(self, to, body):
        self.underway.append(Message(to, len(self.yards) - 1, self.yards[-1], body, cut_number=self.cut_number))

    def take(self, deed):
        """The messages that are sent."""
        before = len(self.underway)
        number = self.gate.take(deed)
        everyone = range(len(self.workers))
        if deed[0] == "event" and number is not None:
            holder = self.routing.holder_of(deed[1], self.yards[-1])
            self.post(holder, ("letter", deed[1], number, deed[2], deed[3]))
        counts = tuple((key, len(self.gate.letters_of(key))) for key in sorted(self.gate.known()))
        if deed[0] == "raise" and number is True:
            for worker in everyone:
                self.post(worker, ("mark", deed[1], counts))
        if deed[0] == "yard":
            self.yards.append(deed[1])
            for worker in everyone:
                self.post(worker, ("yard",))
        if deed[0] == "finish":
            for worker in everyone:
                self.post(worker, ("mark", None, counts))
        return self.underway[before:]

    def arrive(self, place, stays=False):
        """The reports that are told."""
        message = self.underway[place]
        at = message.to
        worker = self.workers[at]
        sends, told, unclear, dropped = worker.receive(message)
        if not stays:
            self.underway = self.underway[:place] + self.underway[place + 1:]
        for to, body, hops in sends:
            self.underway = self.underway + [Message(to, worker.number, worker.yard, body, hops=hops, cut_number=self.cut_numbers[at])]
            if body[0] == "holding" and hops == 0:
                self.sent += body[2].size
        for report in told:
            self.board.take(report)
        self.unclear = self.unclear + [(at, key) for key in unclear]
        self.dropped = self.dropped + [(at, key, letter) for key, letter in dropped]
        return told

    def split_at(self, place):
        message = self.underway[place]
        parts = [Message(message.to, message.number, message.yard, ("holding", message.body[1], part), hops=message.hops,
                         cut_number=message.cut_number) for part in parts_of(message.body[2])]
        self.underway = self.underway[:place] + parts + self.underway[place + 1:]

    def seen(self):
        """What seen_net gives for a net in this state, but for the classes of the workers."""
        return [self.kind, self.gap, self.sheet, self.again, self.routing.rankings, seen_gate(self.gate), self.board.rows(),
                self.board.repeats, self.sent, self.yards, [[at, *map(copied, state(worker))] for at, worker in enumerate(self.workers)],
                [seen_message(message) for message in self.underway], self.unclear, self.dropped]


def without_classes(seen):
    """What seen_net gives, but for the classes of the workers."""
    return [part if at != 10 else [worker[1:] for worker in part] for at, part in enumerate(seen)]


def parcels_of(net, key):
    """All live holdings of the key, workers ascending, and then its letters and holdings under way, the oldest first."""
    parts = [worker.live[key] for worker in net.workers if key in worker.live]
    for message in net.underway:
        if message.body[0] == "holding" and message.body[1] == key:
            parts.append(message.body[2])
        if message.body[0] == "letter" and message.body[1] == key:
            if net.sheet[0] == "place":
                parts.append(Holding.of(net.kind, [message.body[2:]], gap=net.gap))
            else:
                parts.append(Heap.empty(net.kind, gap=net.gap).put(*message.body[2:]))
    return parts


def account_by_the_words(net, key):
    if net.sheet[0] == "place":
        return united(Holding.empty(net.kind, gap=net.gap), *parcels_of(net, key))
    total = Heap.empty(net.kind, gap=net.gap)
    for part in parcels_of(net, key):
        total = total + part
    return total


def front_by_the_words(net, key):
    reports = [report for report in net.board if report[0] == key]
    return sum(1 for letter in net.gate.letters_of(key) if reports and letter[1] <= reports[-1][2])


def plain_behind(net, deeds):
    """The plain run of the net's kind and gap behind these deeds."""
    plain = PlainRun(net.kind, gap=net.gap)
    for deed in deeds:
        plain.take(deed)
    return plain
