"""Crews: the workers that there are."""

from movedstates.errors import BadCrew, BadLine, BadName, BadToken, DuplicateName, UnknownName
from movedstates.tokens import is_name, lines_of


class Crew:
    """One to six workers with names and makes; a worker is known by its number."""

    MOST = 6

    def __init__(self, workers):
        if not 1 <= len(workers) <= self.MOST:
            raise BadCrew()
        known = []
        for name, make in workers:
            if not is_name(name):
                raise BadName(name)
            if not is_name(make):
                raise BadName(make)
            if has_worker(known, name):
                raise DuplicateName(name)
            known.append((name, make))
        self._workers = known

    @classmethod
    def read(cls, text):
        """The crew of the text."""
        workers = []
        for at, line in enumerate(lines_of(text)):
            try:
                name, make = worker_in(line)
            except BadToken:
                raise BadLine(at + 1) from None
            if has_worker(workers, name) or at >= cls.MOST:
                raise BadLine(at + 1)
            workers.append((name, make))
        if len(workers) == 0:
            raise BadLine(1)
        return cls(workers)

    def write(self):
        """The text of the crew."""
        return "\n".join([f"worker {name} make {make}" for name, make in self._workers])

    def __len__(self):
        return len(self._workers)

    def __iter__(self):
        return iter(self._workers)

    def __eq__(self, other):
        return isinstance(other, Crew) and self._workers == other._workers

    def name_of(self, worker):
        """The name of the worker."""
        return self._workers[worker][0]

    def make_of(self, worker):
        """The make of the worker."""
        return self._workers[worker][1]

    def number_of(self, name):
        """The worker with the name."""
        for worker, (known, _) in enumerate(self._workers):
            if known == name:
                return worker
        raise UnknownName(name)


def has_worker(workers, name):
    """Whether one of the workers has the name."""
    return name in [known for known, _ in workers]


def worker_in(line):
    """The name and the make of the worker of a line; BadToken if there is none."""
    tokens = line.split(" ")
    if len(tokens) != 4 or tokens[0] != "worker" or tokens[2] != "make":
        raise BadToken(line)
    if not is_name(tokens[1]) or not is_name(tokens[3]):
        raise BadToken(line)
    return tokens[1], tokens[3]
