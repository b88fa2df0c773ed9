"""Tallies: how many rankings have which holders."""

from movedstates.holders import refuse_yard
from movedstates.verdicts import is_needless, nodes_by_length, settled


def tally(crew, scheme, yards):
    """Tuples of holders in the yards and the number of rankings that have them, ascending."""
    for yard in yards:
        refuse_yard(crew, yard)
    counts = {}
    for node, many in nodes_by_length(crew, scheme, yards)[-1].items():
        held = settled(node)
        counts[held] = counts.get(held, 0) + many
    return sorted(counts.items())


def moved_counts(crew, scheme, before, after):
    """How many rankings move from the yard before to the yard after, by need, and needlessly."""
    moved = 0
    idle = 0
    for (old, new), many in tally(crew, scheme, [before, after]):
        if old != new:
            moved = moved + many
        if is_needless((before, old), (after, new)):
            idle = idle + many
    return moved, moved - idle, idle
