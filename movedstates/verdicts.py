"""Verdicts: what holds for all rankings of a crew in a list of yards."""

from movedstates.holders import refuse_yard


class Verdict:
    """The nodes that show that no ranking does something, or else the first ranking that does it."""

    def __init__(self, table, ranking):
        self.table = table
        self.ranking = ranking

    @property
    def holds(self):
        """Whether no ranking does it."""
        return self.ranking is None

    def __bool__(self):
        return self.ranking is None


def moving(crew, scheme, yards):
    """The verdict on whether no ranking moves."""
    return verdict_on(crew, scheme, yards, moves)


def returning(crew, scheme, yards):
    """The verdict on whether no ranking returns."""
    return verdict_on(crew, scheme, yards, returns)


def needless(crew, scheme, yards):
    """The verdict on whether no ranking has a needless move."""
    return verdict_on(crew, scheme, yards, moves_needlessly)


def start_node(yards):
    """The node of the empty beginning."""
    nobody = tuple([-1 for _ in yards])
    return (), nobody, nobody


def next_node(crew, scheme, yards, node, worker):
    """The node behind one more worker, which is not placed."""
    placed, held, firsts = node
    make = crew.make_of(worker)
    next_held, next_firsts = list(held), list(firsts)
    for at, yard in enumerate(yards):
        if worker in yard:
            # It does not matter in which order the workers stand that the scheme counts.
            seen = [crew.make_of(other) for other in placed if other in yard]
            if held[at] == -1 and scheme.takes(make, seen):
                next_held[at] = worker
            if firsts[at] == -1:
                next_firsts[at] = worker
    return tuple(sorted(placed + (worker,))), tuple(next_held), tuple(next_firsts)


def settled(node):
    """The settled holders of a full node."""
    _, held, firsts = node
    return tuple([first if taken == -1 else taken for taken, first in zip(held, firsts)])


def nodes_by_length(crew, scheme, yards):
    """For each length of beginnings a dict from their nodes to the number of beginnings that have it."""
    levels = [{start_node(yards): 1}]
    for _ in range(len(crew)):
        behind = {}
        for node, many in levels[-1].items():
            for worker in unplaced(crew, node):
                longer = next_node(crew, scheme, yards, node, worker)
                behind[longer] = behind.get(longer, 0) + many
        levels.append(behind)
    return levels


def unplaced(crew, node):
    """The workers that are not placed, ascending."""
    return [worker for worker in range(len(crew)) if worker not in node[0]]


def verdict_on(crew, scheme, yards, fails):
    """The verdict on whether there is no ranking whose holders fail."""
    for yard in yards:
        refuse_yard(crew, yard)
    levels = nodes_by_length(crew, scheme, yards)
    if any([fails(yards, settled(node)) for node in levels[-1]]):
        return Verdict([], first_failing(crew, scheme, yards, fails, [], start_node(yards)))
    return Verdict(sorted([node for level in levels for node in level]), None)


def first_failing(crew, scheme, yards, fails, beginning, node):
    """The first ranking that begins so and whose holders fail, or None."""
    rest = unplaced(crew, node)
    if len(rest) == 0:
        return beginning if fails(yards, settled(node)) else None
    for worker in rest:
        longer = next_node(crew, scheme, yards, node, worker)
        found = first_failing(crew, scheme, yards, fails, beginning + [worker], longer)
        if found is not None:
            return found
    return None


def moves(yards, held):
    """Whether a ranking with these holders moves."""
    return len(set(held)) > 1


def returns(yards, held):
    """Whether a ranking with these holders returns."""
    runs = [worker for at, worker in enumerate(held) if at == 0 or held[at - 1] != worker]
    return len(set(runs)) < len(runs)


def moves_needlessly(yards, held):
    """Whether a ranking with these holders has a needless move."""
    pairs = list(zip(yards, held))
    return any([is_needless(one, other) for one, other in zip(pairs, pairs[1:])])


def is_needless(one, other):
    """Whether there is a needless move from one yard with its holder to the next yard with its own."""
    before, old = one
    after, new = other
    return old != new and old in after and new in before
