"""Heaps: what is kept of letters without their numbers."""

from movedstates.checks import checked_kind, refuse_other
from movedstates.sessions import closed_by


class Heap:
    """Blocks of letters, put one behind another; it never changes."""

    def __init__(self, named, gap, number, top, blocks):
        self.kind = named.NAME
        self.gap = gap
        self.number = number
        self.blocks = blocks
        self._named = named
        self._top = top

    @classmethod
    def empty(cls, kind, *, gap):
        """The empty heap."""
        named = checked_kind(kind, gap)
        return cls(named, gap, 0, 0, ())

    @property
    def top(self):
        """The greatest number of a letter plus 1, or 0 if there are none."""
        return self._top

    @property
    def size(self):
        """How much is kept."""
        return 2 + sum([2 + len(block[2]) for block in self.blocks])

    @property
    def whole(self):
        """Whether its number is its top."""
        return self.number == self._top

    def put(self, number, time, value):
        """The heap with the letter put into it."""
        block = (time, time, self._named.plain((value,)))
        return self + Heap(self._named, self.gap, 1, number + 1, (block,))

    def __add__(self, other):
        refuse_other(self, other)
        blocks = clustered(self._named, self.gap, self.blocks, other.blocks)
        return Heap(self._named, self.gap, self.number + other.number, max(self._top, other._top), blocks)

    def __eq__(self, other):
        return (isinstance(other, Heap) and self.kind == other.kind and self.gap == other.gap
                and self.number == other.number and self._top == other._top and self.blocks == other.blocks)

    def tell(self, mark):
        """The told blocks, in order, and the heap that is left."""
        told = list(self.blocks[:self._told_count(mark)])
        return told, Heap(self._named, self.gap, self.number, self._top, self.blocks[len(told):])

    def _told_count(self, mark):
        """How many blocks are told at the mark."""
        if not self.whole or len(self.blocks) == 0:
            return 0
        first, last, value = self.blocks[-1]
        if closed_by(mark, (0, self._top, first, last, value), self.gap):
            return len(self.blocks)
        return len(self.blocks) - 1


def clustered(named, gap, ahead, behind):
    """The blocks of two heaps that are put one behind the other."""
    visited = sorted([(block[0], 0, block) for block in ahead] + [(block[0], 1, block) for block in behind])
    clusters = []
    for first, place, block in visited:
        added = (block[2], ()) if place == 0 else ((), block[2])
        if len(clusters) > 0 and first <= clusters[-1][1] + gap:
            start, last, left, right = clusters.pop()
            clusters.append((start, max(last, block[1]), left + added[0], right + added[1]))
        else:
            clusters.append((first, block[1], added[0], added[1]))
    return tuple([(first, last, named.plain(left + right)) for first, last, left, right in clusters])
