"""Merge functions as tables."""

from movedstates.errors import BadTable, EmptyWord
from movedstates.kinds import kind_named, rule_words

ASSOCIATIVE = "(12)3=1(23)"


class Table:
    """A table that merges the numbers from 0 on."""

    def __init__(self, rows):
        if len(rows) == 0:
            raise BadTable(0)
        for at, row in enumerate(rows):
            if len(row) != len(rows) or not all([0 <= merged < len(rows) for merged in row]):
                raise BadTable(at)
        self._rows = [list(row) for row in rows]

    @property
    def size(self):
        """How many elements the table merges."""
        return len(self._rows)

    def rows(self):
        """The rows, as new lists."""
        return [list(row) for row in self._rows]

    def __call__(self, one, other):
        """The merged element of two."""
        return self._rows[one][other]

    def fold(self, word):
        """The elements of the word, merged from the left."""
        if len(word) == 0:
            raise EmptyWord()
        merged = word[0]
        for one in word[1:]:
            merged = self._rows[merged][one]
        return merged

    def fault(self, kind):
        """None if the table is a merge function of the kind; otherwise what it breaks, and where."""
        named = kind_named(kind)
        triple = self._parted_triple()
        if triple is not None:
            return ASSOCIATIVE, triple
        for rule in named.RULES:
            reading = self._breaking(rule)
            if reading is not None:
                return rule, reading
        return None

    def _parted_triple(self):
        """The least triple for which the grouping matters, or None."""
        rows = self._rows
        for one, left in enumerate(rows):
            for two, right in enumerate(rows):
                merged = rows[left[two]]
                for three, last in enumerate(right):
                    if merged[three] != left[last]:
                        return one, two, three
        return None

    def _breaking(self, rule):
        """The least tuple of elements for which both sides of the rule differ, or None."""
        left, right = rule_words(rule)
        size = len(self._rows)
        digits = max(left + right)
        for reading in readings(size, digits):
            if self.fold([reading[digit - 1] for digit in left]) != self.fold([reading[digit - 1] for digit in right]):
                return reading
        return None


def readings(size, many):
    """All tuples of so many numbers below size, ascending."""
    if many == 0:
        yield ()
    else:
        fewer = many - 1
        for start in readings(size, fewer):
            for one in range(size):
                yield start + (one,)
