"""Workers that do without the numbers of letters."""

from movedstates.heaps import Heap
from movedstates.placers import Placer


class Counter(Placer):
    """A worker that keeps heaps."""

    JOINS = "count"

    def __init__(self, worker, kind, routing, *, gap, yard, sheet=("count", "forward", False)):
        super().__init__(worker, kind, routing, gap=gap, yard=yard, sheet=sheet)

    def twin(self):
        """A worker in the same state."""
        other = Counter(self.worker, self.kind, self.routing, gap=self.gap, yard=self.yard, sheet=self.sheet)
        self._copy_to(other)
        return other

    def is_holder(self, key):
        """Whether the worker holds the key by the newest yard that it knows."""
        return super().is_holder(key)

    def receive(self, message):
        """Does what the arrival of the message does at the worker."""
        return super().receive(message)

    def _nothing(self):
        return Heap.empty(self.kind, gap=self.gap)

    def _joined(self, live, arrived):
        return live + arrived

    def _tell_one(self, live, mark):
        return live.tell(mark)
