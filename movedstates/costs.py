"""What it costs to come from one yard to another."""

from movedstates.holders import holders, refuse_yard


def list_cost(crew, scheme, loads, yards):
    """The cost of the list of yards."""
    # All yards come ahead of the rankings, which holders looks at even if there are no yards.
    for yard in yards:
        refuse_yard(crew, yard)
    return sum([weight * moves_of(holders(crew, scheme, ranking, yards)) for ranking, weight in loads])


def step_cost(crew, scheme, loads, before, after):
    """The cost of the step from the yard before to the yard after."""
    return list_cost(crew, scheme, loads, [before, after])


def loads_of(net):
    """The loads of the net: for each key that is live its ranking and how much is live."""
    return [(net.routing.rankings[key], size) for key, size in live_sizes(net)]


def moved_keys(net, yard):
    """The live keys whose holders by the newest yard and by this one differ."""
    refuse_yard(net.routing.crew, yard)
    routing = net.routing
    return [key for key, _ in live_sizes(net) if routing.holder_of(key, net.newest) != routing.holder_of(key, yard)]


def live_sizes(net):
    """Tuples of a key that is live and the sum of the sizes of its live holdings, the keys ascending."""
    sizes = {}
    for worker in net.workers:
        for key, holding in worker.live.items():
            sizes[key] = sizes.get(key, 0) + holding.size
    return [(key, sizes[key]) for key in sorted(sizes)]


def moves_of(held):
    """How often the holders change from one yard to the next."""
    return len([at for at in range(1, len(held)) if held[at - 1] != held[at]])
