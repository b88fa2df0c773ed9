"""Judgements: a run of a setting, held against the plain run."""

from movedstates.errors import BadYard
from movedstates.plainruns import plain_board
from movedstates.runs import run
from movedstates.witnesses import witness


class Judgement:
    """The board of a run, the board that is due, and what was noted as unclear."""

    def __init__(self, kind, board, due, unclear):
        self.kind = kind
        self.board = board
        self.due = due
        self.unclear = unclear

    @property
    def agrees(self):
        """Whether nothing is unclear and both boards are equal."""
        return len(self.unclear) == 0 and self.board == self.due

    def missing(self):
        """The due reports that are not on the board."""
        return reports_without(self.due, self.board)

    def extra(self):
        """The reports on the board that are not due."""
        return reports_without(self.board, self.due)

    def parted(self):
        """None, or a report on the board and one that is due, with other values, and what parts these."""
        for report in self.board.rows():
            for due in self.due.reports_of(report[0]):
                if report[:3] == due[:3] and report[3] != due[3]:
                    table, reading = witness(self.kind, report[3], due[3])
                    return report, due, table, reading
        return None


def judged(setting, rankings, deeds, weaving=(), *, gap):
    """The judgement on a run of the setting."""
    net = setting.net_for(rankings, gap=gap)
    if not setting.fits_tape(deeds):
        raise BadYard()
    ended = run(net, deeds, weaving)
    due = plain_board(setting.kind, deeds, gap=gap)
    return Judgement(setting.kind, ended.net.board, due, list(ended.net.unclear))


def reports_without(board, other):
    """The reports of one board that are not on the other one, in order."""
    return [report for report in board.rows() if report not in other]
