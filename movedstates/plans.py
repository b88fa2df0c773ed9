"""The cheapest list of yards from one yard to another."""

from movedstates.errors import NoWay
from movedstates.holders import holder, refuse_ranking, refuse_yard


class Plan:
    """A list of yards, its cost, and how far each yard is from the first one."""

    def __init__(self, yards, cost, table):
        self.yards = yards
        self.cost = cost
        self.table = table


def cheapest(crew, scheme, loads, start, goal, *, most=1, least=1):
    """A plan from start to goal with steps of at most "most" workers and yards of at least "least"."""
    refuse_yard(crew, start)
    refuse_yard(crew, goal)
    for ranking, _ in loads:
        refuse_ranking(crew, ranking)
    if len(start) < least or len(goal) < least:
        raise NoWay()
    ways = ways_from(tuple(start), held_by_yard(crew, scheme, loads, least), list(weights_of(loads).values()), most)
    table = sorted([(yard, ways[yard][0]) for yard in ways])
    yards = [tuple(goal)]
    while yards[0] != tuple(start):
        yards = [ways[yards[0]][1]] + yards
    return Plan(yards, ways[tuple(goal)][0], table)


def ways_from(start, held, weights, most):
    """A dict from each yard to its distance and the yard ahead of it on a cheapest way."""
    found = {start: (0, None)}
    settled = {}
    while len(found) > 0:
        near = min(list(found), key=lambda yard: (found[yard][0], yard))
        settled[near] = found.pop(near)
        for yard in held:
            if yard not in settled and differing(near, yard) <= most:
                distance = settled[near][0] + cost_between(held[near], held[yard], weights)
                if yard not in found or distance < found[yard][0]:
                    found[yard] = (distance, near)
    return settled


def weights_of(loads):
    """A dict from each ranking to the sum of its weights."""
    weights = {}
    for ranking, weight in loads:
        weights[tuple(ranking)] = weights.get(tuple(ranking), 0) + weight
    return weights


def held_by_yard(crew, scheme, loads, least):
    """A dict from each yard with enough workers to the holders of the different rankings of the loads."""
    rankings = list(weights_of(loads))
    return {yard: [holder(crew, scheme, ranking, yard) for ranking in rankings] for yard in yards_of(crew, least)}


def yards_of(crew, least):
    """All yards of the crew with at least so many workers."""
    yards = [()]
    for worker in range(len(crew)):
        yards = yards + [yard + (worker,) for yard in yards]
    return [yard for yard in yards if len(yard) >= least]


def differing(yard, other):
    """How many workers are in just one of the yards."""
    return len(set(yard) ^ set(other))


def cost_between(held, other, weights):
    """The cost of a step between two yards with these holders."""
    return sum([weight for one, two, weight in zip(held, other, weights) if one != two])
