"""Cuts: records of a running net from which one can go on."""

from movedstates.boards import Board
from movedstates.errors import CutOpen
from movedstates.messages import Message
from movedstates.nets import Net
from movedstates.records import record_gate, record_worker, restore_worker


class OpenCut:
    """What is recorded of a cut that has begun."""

    def __init__(self, gate):
        self.gate = gate
        self.records = {}
        self.messages = []

    def twin(self):
        """An open cut in the same state."""
        other = OpenCut(self.gate)
        other.records = dict(self.records)
        other.messages = list(self.messages)
        return other


class Cut:
    """A closed cut, with the settings of its net."""

    def __init__(self, net, opened, board):
        self.number = net.cut_number
        self.gate = opened.gate
        self.records = [opened.records[worker] for worker in range(len(net.workers))]
        self.messages = list(opened.messages)
        self.board = board
        self.kind = net.kind
        self.gap = net.gap
        self.routing = net.routing
        self.sheet = net.sheet
        self.again = net.again


class CutNet(Net):
    """A net in which cuts can be made."""

    def __init__(self, kind, *, gap, crew, scheme, rankings, yard, sheet=("place", "forward", False), again=False):
        super().__init__(kind, gap=gap, crew=crew, scheme=scheme, rankings=rankings, yard=yard, sheet=sheet,
                         again=again)
        self.cut_number = 0
        self.taken = 0
        self.cut_numbers = [0 for _ in self.workers]
        self.told_by = [[] for _ in self.workers]
        self.cuts = []
        self._opened = None
        # What was on the board when the net was made.
        self._reported = []

    @property
    def cut_open(self):
        """Whether a cut is open."""
        return self._opened is not None

    def take(self, deed):
        """The gate takes the deed; the messages that it sends."""
        sent = super().take(deed)
        self.taken = self.taken + 1
        return sent

    def arrive(self, place, *, stays=False):
        """The message at this index arrives; the reports that the worker tells."""
        self.refuse_arrival(place, stays)
        message = self.underway[place]
        self._note_arrival(message)
        told = []
        if message.body[0] != "cut":
            told = super().arrive(place, stays=stays)
            self.told_by[message.to].extend(told)
        elif not stays:
            del self.underway[place]
        self._close_if_due()
        return told

    def begin_cut(self):
        """Begins a cut; its number."""
        if self.cut_open:
            raise CutOpen()
        self._opened = OpenCut(record_gate(self))
        self.cut_number = self.cut_number + 1
        self.post_to_all(("cut",))
        return self.cut_number

    def twin(self):
        """A cut net in the same state."""
        other = net_like(self, self.yards[0])
        self._copy_to(other)
        return other

    def go_on_from(self, gate_record, records, board, cut_number):
        """Gives a net that was just made what is recorded of one with the same settings."""
        self.gate = gate_record.gate.twin()
        self.yards = list(gate_record.yards)
        self.taken = gate_record.taken
        for worker, record in zip(self.workers, records):
            restore_worker(worker, record)
        self.board = board.twin()
        self._reported = board.rows()
        self.cut_number = cut_number
        self.cut_numbers = [cut_number for _ in self.workers]

    def _note_arrival(self, message):
        """Records the worker, or notes the message, as the cut numbers of both demand it."""
        worker = message.to
        if message.cut_number > self.cut_numbers[worker]:
            self._opened.records[worker] = record_worker(self, worker)
            self.cut_numbers[worker] = message.cut_number
        elif message.cut_number < self.cut_numbers[worker] and self.cut_open and message.body[0] != "cut":
            self._opened.messages.append(message)

    def _close_if_due(self):
        """Closes the open cut if nothing can belong to it any more."""
        if not self.cut_open or any([number < self.cut_number for number in self.cut_numbers]):
            return
        if any([message.cut_number < self.cut_number and message.body[0] != "cut" for message in self.underway]):
            return
        self.cuts.append(Cut(self, self._opened, self._board_of_cut()))
        self._opened = None

    def _board_of_cut(self):
        """The board that was there first, and all that the workers had told when they were recorded."""
        board = Board()
        told = [report for record in self._opened.records.values() for report in record.told]
        for report in self._reported + sorted(told):
            board.take(report)
        return board

    def _copy_to(self, other):
        """Gives a cut net with the same settings the same state."""
        super()._copy_to(other)
        other.cut_number = self.cut_number
        other.taken = self.taken
        other.cut_numbers = list(self.cut_numbers)
        other.told_by = [list(told) for told in self.told_by]
        other.cuts = list(self.cuts)
        other._opened = None if self._opened is None else self._opened.twin()
        other._reported = list(self._reported)

    def _cut_number_of_gate(self):
        return self.cut_number

    def _cut_number_at(self, worker):
        return self.cut_numbers[worker]


def net_like(source, yard):
    """A new cut net with the settings of a net or a cut."""
    routing = source.routing
    return CutNet(source.kind, gap=source.gap, crew=routing.crew, scheme=routing.scheme, rankings=routing.rankings,
                  yard=yard, sheet=source.sheet, again=source.again)


def resume(cut):
    """The cut net that goes on from the cut."""
    net = net_like(cut, cut.gate.yards[0])
    net.go_on_from(cut.gate, cut.records, cut.board, cut.number)
    net.underway = [Message(message.to, message.number, message.yard, message.body, hops=message.hops,
                            cut_number=cut.number) for message in cut.messages]
    return net
