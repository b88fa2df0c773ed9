"""What the tests of cut nets need: all that they are made of, and a cut net straight from points 81 to 83."""

from movedstates.blocks import known_numbers
from movedstates.boards import Board
from movedstates.cuts import CutNet
from movedstates.holdings import Holding
from tests.nets import NetByTheWords, copied, random_net, seen_gate, seen_message, seen_net
from tests.workers import state


def seen_record(record):
    return [record.number, record.yard, record.watermark, dict(record.live), dict(record.kept), list(record.told)]


def seen_gate_record(record):
    return [seen_gate(record.gate), list(record.yards), record.taken]


def seen_cut(cut):
    return [cut.number, seen_gate_record(cut.gate), [seen_record(record) for record in cut.records],
            [seen_message(message) for message in cut.messages], cut.board.rows(), cut.board.repeats]


def seen_cut_net(net):
    return seen_net(net) + [net.cut_number, net.taken, list(net.cut_numbers), [list(told) for told in net.told_by],
                            [seen_cut(cut) for cut in net.cuts], net.cut_open]


def parcels_of_cut(cut, key):
    """The live holdings of the key in the records, and its noted letters and holdings, all as holdings."""
    parcels = [record.live[key] for record in cut.records if key in record.live]
    for message in cut.messages:
        word, *rest = message.body
        if word == "letter" and rest[0] == key:
            parcels.append(Holding.of(cut.kind, [tuple(rest[1:])], gap=cut.gap))
        if word == "holding" and rest[0] == key:
            parcels.append(rest[1])
    return parcels


def known_by(holding):
    return [number for block in holding for number in known_numbers(block)]


def random_cut_net(random, row=None, **more):
    return random_net(random, row, made=CutNet, **more)


class CutNetByTheWords(NetByTheWords):

    def __init__(self, net):
        """One in the state of a net that was just made, in whatever way."""
        super().__init__(net)
        self.gate, self.yards, self.board = net.gate.twin(), list(net.yards), net.board.twin()
        for mine, worker in zip(self.workers, net.workers):
            mine.number, mine.yard, mine.watermark, mine.live, mine.kept = map(copied, state(worker))
        self.underway = list(net.underway)
        self.cut_number, self.cut_numbers, self.taken = net.cut_number, list(net.cut_numbers), net.taken
        self.told_by, self.cuts, self.opened = [[] for _ in self.workers], [], None
        self.reported = net.board.rows()

    def take(self, deed):
        sent = super().take(deed)
        self.taken += 1
        return sent

    def begin_cut(self):
        self.opened = [[seen_gate(self.gate), list(self.yards), self.taken], {}, []]
        self.cut_number += 1
        for worker in range(len(self.workers)):
            self.post(worker, ("cut",))
        return self.cut_number

    def arrive(self, place, stays=False):
        message = self.underway[place]
        at = message.to
        if message.cut_number > self.cut_numbers[at]:
            self.opened[1][at] = [*map(copied, state(self.workers[at])), list(self.told_by[at])]
            self.cut_numbers = [message.cut_number if one == at else number for one, number in enumerate(self.cut_numbers)]
        if message.cut_number < self.cut_numbers[at] and self.opened is not None and message.body != ("cut",):
            self.opened[2].append(seen_message(message))
        told = []
        if message.body != ("cut",):
            told = super().arrive(place, stays)
            self.told_by[at] = self.told_by[at] + told
        elif not stays:
            self.underway = self.underway[:place] + self.underway[place + 1:]
        self.close()
        return told

    def close(self):
        known = all(number == self.cut_number for number in self.cut_numbers)
        lower = [one for one in self.underway if one.cut_number < self.cut_number and one.body != ("cut",)]
        if self.opened is None or not known or lower:
            return
        gate, records, messages = self.opened
        board = Board()
        for report in self.reported + sorted(report for record in records.values() for report in record[5]):
            board.take(report)
        self.cuts.append([self.cut_number, gate, [records[at] for at in sorted(records)], messages, board.rows(), board.repeats])
        self.opened = None

    def seen(self):
        return super().seen() + [self.cut_number, self.taken, self.cut_numbers, self.told_by, self.cuts, self.opened is not None]
