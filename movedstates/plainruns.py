"""The plain run of a tape: one gate and one board."""

from movedstates.boards import Board
from movedstates.checks import checked_kind
from movedstates.gates import Gate
from movedstates.kinds import kind_named
from movedstates.sessions import sessions_within, told_part


class PlainRun:
    """A plain run before its first deed."""

    def __init__(self, kind, *, gap):
        checked_kind(kind, gap)
        self.kind = kind
        self.gap = gap
        self.gate = Gate()
        self.board = Board()
        self._told = {}

    def take(self, deed):
        """Takes a deed; the reports that are told at it."""
        self.gate.take(deed)
        # An event says nothing of other keys than its own.
        keys = [deed[1]] if deed[0] == "event" else self.gate.known()
        reports = []
        for key in keys:
            reports.extend(self._tell(key))
        for report in reports:
            self.board.take(report)
        return reports

    def play(self, deeds):
        """Takes the deeds in turn and yields the reports of each."""
        for deed in deeds:
            yield self.take(deed)

    def twin(self):
        """A plain run in the same state."""
        other = PlainRun(self.kind, gap=self.gap)
        other.gate = self.gate.twin()
        other.board = self.board.twin()
        other._told = dict(self._told)
        return other

    def _tell(self, key):
        """The sessions of the key that are told now and were not told before, as reports."""
        letters = self.gate.letters_of(key)[self._told.get(key, 0):]
        sessions = sessions_within(kind_named(self.kind), letters, self.gap)
        told = told_part(sessions, self.gate.mark_of(key), self.gap)
        if len(told) > 0:
            self._told[key] = told[-1][1]
        return [(key, session[2], session[3], session[4]) for session in told]


def plain_board(kind, deeds, *, gap):
    """The board of the plain run of the tape, finished if the tape has no finish."""
    run = PlainRun(kind, gap=gap)
    for deed in deeds:
        run.take(deed)
    if not run.gate.finished:
        run.take(("finish",))
    return run.board
