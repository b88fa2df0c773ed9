"""The board, which has each report once."""


class Board:
    """A board without reports."""

    def __init__(self):
        self._reports = []
        self._lasts = {}
        self._repeats = 0

    @property
    def repeats(self):
        """How many repeats came."""
        return self._repeats

    def take(self, report):
        """Takes a report; False if it is a repeat, otherwise True."""
        key, first, last, _ = report
        if key in self._lasts and first <= self._lasts[key]:
            self._repeats += 1
            return False
        at = len([row for row in self._reports if row[0] <= key])
        # A new list, so that a loop over the board is not disturbed.
        self._reports = self._reports[:at] + [report] + self._reports[at:]
        self._lasts[key] = last
        return True

    def reports_of(self, key):
        """The reports of the key, in order."""
        return [report for report in self._reports if report[0] == key]

    def rows(self):
        """All reports, the keys ascending, those of a key in order."""
        return list(self._reports)

    def __iter__(self):
        return iter(self._reports)

    def __len__(self):
        return len(self._reports)

    def __contains__(self, report):
        return report in self._reports

    def __eq__(self, other):
        return isinstance(other, Board) and self._reports == other._reports

    def twin(self):
        """A board in the same state."""
        other = Board()
        other._reports = list(self._reports)
        other._lasts = dict(self._lasts)
        other._repeats = self._repeats
        return other

    def listing(self):
        """A line for each report, in the order of rows."""
        return [report_line(report) for report in self._reports]


def report_line(report):
    """The key, both times and the value, in columns."""
    key, first, last, value = report
    merged = " ".join([str(one) for one in value])
    return f"{key:<8}{first:>8}{last:>8}  {merged}"
