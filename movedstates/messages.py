"""Messages between workers, watermarks, and where the keys are held."""

from movedstates.errors import UnknownName
from movedstates.holders import holder, refuse_ranking


class Message:
    """What is sent to a worker."""

    def __init__(self, to, number, yard, body, *, hops=0, cut_number=0):
        self.to = to
        self.number = number
        self.yard = yard
        self.body = body
        self.hops = hops
        self.cut_number = cut_number


class Routing:
    """A crew, a scheme and a ranking for each key."""

    def __init__(self, crew, scheme, rankings):
        for key in rankings:
            refuse_ranking(crew, rankings[key])
        self.crew = crew
        self.scheme = scheme
        self.rankings = {key: tuple(ranking) for key, ranking in rankings.items()}

    def holder_of(self, key, yard):
        """The holder of the key by the yard."""
        if key not in self.rankings:
            raise UnknownName(key)
        return holder(self.crew, self.scheme, self.rankings[key], yard)


def newer(one, other):
    """Whether the watermark one is newer than other; None stands for no watermark."""
    if one is None or other is None:
        return one is not None and other is None
    if one[0] is None or other[0] is None:
        return one[0] is None and other[0] is not None
    return one[0] > other[0]


def mark_for(watermark, key):
    """The mark that the watermark gives the key."""
    if watermark is None:
        return None
    floor, counts = watermark
    return dict(counts).get(key, 0), floor
