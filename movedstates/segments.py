"""Joining the stretches of several blocks."""

from movedstates.kinds import kind_named
from movedstates.rows import hole_between, row_from


def joined_stretches(kind, pieces):
    """The row of the block of all these stretches, for a placed kind."""
    named = kind_named(kind)
    if named.NAME == "list":
        return tuple(listed_entries(pieces))
    # Under heads a hole is read behind the stretches before it and ahead of those behind it when it counts by its
    # start, as they do; under tails when all count by their ends.
    end = 1 if named.NAME == "tails" else 0
    holes = [(start, stop, ((start, stop),)) for start, stop in holes_between(pieces)]
    ordered = sorted(list(pieces) + holes, key=lambda piece: piece[end])
    return row_from(kind, [entry for piece in ordered for entry in piece[2]])


def listed_entries(pieces):
    """The value of each known number, once, and the holes."""
    entries = []
    reached = None
    for start, end, values in sorted(pieces):
        if reached is None:
            reached = start
        entries.extend(hole_between(reached, start))
        entries.extend(values[max(reached - start, 0):])
        reached = max(reached, end)
    return entries


def holes_between(pieces):
    """The longest runs of numbers between the stretches that are in none of them."""
    holes = []
    reached = None
    for start, end in sorted([(piece[0], piece[1]) for piece in pieces]):
        if reached is not None:
            holes.extend(hole_between(reached, start))
            end = max(reached, end)
        reached = end
    return holes
