"""The gate: which events are let in, and what is known of the rest."""

from movedstates.errors import BadName, Finished
from movedstates.tokens import is_name


def fitting(letters):
    """Whether the letters, in any order, are fitting."""
    ordered = sorted(letters)
    return all([one[0] < other[0] and one[1] <= other[1] for one, other in zip(ordered, ordered[1:])])


class Gate:
    """A gate that has taken nothing yet."""

    def __init__(self):
        self._floor = None
        self._finished = False
        self._letters = {}
        self._floored = {}
        self._late = []

    @property
    def floor(self):
        """The floor, or None."""
        return self._floor

    @property
    def finished(self):
        """Whether the gate has taken the finish."""
        return self._finished

    def lets_in(self, key, time):
        """Whether an event of this key and time would be let in now."""
        if self._finished or not is_name(key):
            return False
        if self._floor is not None and time < self._floor:
            return False
        letters = self._letters.get(key, [])
        return len(letters) == 0 or letters[-1][1] <= time

    def event(self, key, time, value):
        """Takes an event; its number, or None if it is late."""
        self._refuse_if_finished()
        if not is_name(key):
            raise BadName(key)
        if not self.lets_in(key, time):
            self._late.append((key, time, value))
            return None
        number = self.count_of(key)
        self._letters.setdefault(key, []).append((number, time, value))
        return number

    def raise_floor(self, time):
        """Takes a raise; whether it changes the floor."""
        self._refuse_if_finished()
        if self._floor is not None and time <= self._floor:
            return False
        self._floor = time
        self._floored = {key: len(letters) for key, letters in self._letters.items()}
        return True

    def finish(self):
        """Takes the finish."""
        self._refuse_if_finished()
        self._finished = True

    def take(self, deed):
        """Takes a deed; what the method for it returns."""
        word = deed[0]
        if word == "event":
            return self.event(deed[1], deed[2], deed[3])
        if word == "raise":
            return self.raise_floor(deed[1])
        if word == "finish":
            return self.finish()
        self._refuse_if_finished()
        return None

    def letters_of(self, key):
        """The letters of the key, in order."""
        return list(self._letters.get(key, []))

    def count_of(self, key):
        """How many letters the key has."""
        return len(self._letters.get(key, []))

    def mark_of(self, key):
        """The newest mark of the key."""
        if self._finished:
            return self.count_of(key), None
        if self._floor is None:
            return None
        return self._floored.get(key, 0), self._floor

    def known(self):
        """The keys that have letters, ascending."""
        return sorted(self._letters)

    def late(self):
        """The late events, as they came."""
        return list(self._late)

    def twin(self):
        """A gate in the same state."""
        other = Gate()
        other._floor = self._floor
        other._finished = self._finished
        other._letters = {key: list(letters) for key, letters in self._letters.items()}
        other._floored = dict(self._floored)
        other._late = list(self._late)
        return other

    def _refuse_if_finished(self):
        if self._finished:
            raise Finished()
