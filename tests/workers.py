"""A worker straight from point 65, and messages at random, for the tests of workers."""

from movedstates.crews import Crew
from movedstates.errors import Unclear
from movedstates.heaps import Heap
from movedstates.holdings import Holding
from movedstates.messages import Message, Routing
from movedstates.ripening import tell
from movedstates.schemes import Scheme
from movedstates.unions import unite
from tests.helpers import is_base, random_letters

CREW = Crew([("x", "m"), ("y", "m"), ("z", "n")])
KEYS = ("a", "b", "c")


def routing_of(rankings, scheme=""):
    return Routing(CREW, Scheme.read(scheme), rankings)


def heap_of(kind, letters, *, gap):
    heap = Heap.empty(kind, gap=gap)
    for letter in letters:
        heap = heap.put(*letter)
    return heap


def state(worker):
    """All that point 64 gives a worker."""
    return [worker.number, worker.yard, worker.watermark, worker.live, worker.kept]


def outcome_parts(outcome):
    return [outcome.sends, outcome.told, outcome.unclear, outcome.dropped]


class WorkerByTheWords:

    def __init__(self, worker, kind, routing, *, gap, yard, sheet):
        self.worker, self.kind, self.routing, self.gap, self.sheet = worker, kind, routing, gap, sheet
        self.number, self.yard, self.watermark, self.live, self.kept = 0, yard, None, {}, {}

    def holder(self, key):
        return self.routing.holder_of(key, self.yard)

    def receive(self, message):
        joins, letters, keeps = self.sheet
        sends, told, unclear, dropped = [], [], [], []
        # 1.
        if message.number > self.number:
            self.number, self.yard = message.number, message.yard
            for key, holding in sorted(self.live.items(), key=lambda item: item[0]):
                if self.holder(key) != self.worker:
                    sends.append((self.holder(key), ("holding", key, holding), 0))
                    self.live = {other: one for other, one in self.live.items() if other != key}
                    if keeps:
                        self.kept = {**self.kept, key: holding}
            for key, holding in sorted(self.kept.items(), key=lambda item: item[0]):
                if self.holder(key) == self.worker:
                    self.live = {**self.live, key: holding}
                    self.kept = {other: one for other, one in self.kept.items() if other != key}
        # 2.
        what, *rest = message.body
        if what == "mark":
            floor, counts = rest
            older = self.watermark is None or (self.watermark[0] is not None and (floor is None or self.watermark[0] < floor))
            if older:
                self.watermark = (floor, counts)
        if what in ("letter", "holding"):
            key = rest[0]
            # 3.
            if self.holder(key) == self.worker:
                empty = Holding.empty(self.kind, gap=self.gap) if joins == "place" else Heap.empty(self.kind, gap=self.gap)
                live = self.live.get(key, empty)
                try:
                    if what == "letter":
                        live = live.put(*rest[1:])
                    else:
                        live = unite(live, rest[1]) if joins == "place" else live + rest[1]
                    self.live = {**self.live, key: live}
                except Unclear:
                    unclear.append(key)
            # 4.
            elif what == "letter" and letters == "drop":
                dropped.append((key, tuple(rest[1:])))
            else:
                sends.append((self.holder(key), message.body, message.hops + 1))
        # 5.
        for key in sorted(self.live):
            mark = None
            if self.watermark is not None:
                floor, counts = self.watermark
                mark = ([count for one, count in counts if one == key] + [0])[0], floor
            if joins == "place":
                sessions, left = tell(self.live[key], mark)
                sessions = [session[2:] for session in sessions]
            else:
                sessions, left = self.live[key].tell(mark)
            told += [(key, *session) for session in sessions]
            self.live = {**self.live, key: left}
        return [sends, told, unclear, dropped]


class RandomMessages:
    """Messages of one tape for each key, with yards by number."""

    def __init__(self, random, kind, joins):
        self.random, self.kind, self.joins = random, kind, joins
        self.gap = random.randint(0, 3)
        self.letters = {key: random_letters(random, most=8, values=random.choice(((5, 6), (5, 6, 7)))) for key in KEYS}
        self.words = ["letter"] * 4 + ["holding"] * 2 + ["mark", "yard"]
        if random.random() < 0.3:
            # With one session alone, few values and few letters more unions of bags are unclear.
            self.words = ["holding"] * 8 + ["letter", "mark"]
            self.letters = {key: [(number, 0, random.choice((5, 6))) for number in range(random.randint(3, 7))] for key in KEYS}
        self.yards = [random.choice([(0,), (1,), (2,), (0, 1), (0, 2), (1, 2), (0, 1, 2)]) for _ in range(7)]
        self.rankings = {key: random.sample(range(3), 3) for key in KEYS}

    def mark(self):
        """A watermark that is true of all letters."""
        if self.random.random() < 0.2:
            return None, tuple((key, len(self.letters[key])) for key in KEYS if self.letters[key])
        floor = self.random.randint(-3, 25)
        counts = [(key, len([letter for letter in self.letters[key] if letter[1] < floor])) for key in KEYS]
        return floor, tuple((key, count) for key, count in counts if count > 0)

    def holding(self, key):
        letters = self.letters[key]
        some = [letter for letter in letters if self.random.random() < 0.5]
        if self.joins == "count":
            self.random.shuffle(some)
            return heap_of(self.kind, some, gap=self.gap)
        bases = [at for at in range(len(letters) + 1) if is_base(letters, at, self.gap)]
        return Holding.of(self.kind, some, gap=self.gap, base=self.random.choice(bases))

    def body(self):
        word = self.random.choice(self.words)
        key = self.random.choice(KEYS)
        if word == "letter" and self.letters[key]:
            return ("letter", key, *self.random.choice(self.letters[key]))
        if word == "holding":
            return "holding", key, self.holding(key)
        if word == "mark":
            return ("mark", *self.mark())
        return ("yard",)

    def message(self, worker, number):
        number = max(0, min(6, number + self.random.choice((-1, 0, 0, 0, 0, 1))))
        return Message(worker, number, self.yards[number], self.body(), hops=self.random.randint(0, 3))
