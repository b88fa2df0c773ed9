"""Holders: which worker of a yard a scheme takes for a ranking."""

from movedstates.errors import BadRanking, BadYard


def present(ranking, yard):
    """The lineup: the workers of the yard in the order of the ranking."""
    return [worker for worker in ranking if worker in yard]


def walk(crew, scheme, ranking, yard):
    """For each worker of the lineup, in order, whether the scheme takes it."""
    refuse_ranking(crew, ranking)
    refuse_yard(crew, yard)
    walked = []
    seen = []
    for worker in present(ranking, yard):
        make = crew.make_of(worker)
        walked.append((worker, scheme.takes(make, seen)))
        seen.append(make)
    return walked


def holder(crew, scheme, ranking, yard):
    """The first worker of the lineup that is taken; the first one of all if none is."""
    walked = walk(crew, scheme, ranking, yard)
    for worker, taken in walked:
        if taken:
            return worker
    return walked[0][0]


def holders(crew, scheme, ranking, yards):
    """The holders in the yards, in order."""
    refuse_ranking(crew, ranking)
    return [holder(crew, scheme, ranking, yard) for yard in yards]


def refuse_ranking(crew, ranking):
    """Raises BadRanking if the ranking is none of the crew."""
    if len(ranking) != len(crew) or not all([worker in ranking for worker in range(len(crew))]):
        raise BadRanking()


def refuse_yard(crew, yard):
    """Raises BadYard if the yard is none of the crew."""
    ascending = all([one < other for one, other in zip(yard, yard[1:])])
    if len(yard) == 0 or not ascending or yard[0] < 0 or yard[-1] >= len(crew):
        raise BadYard()
