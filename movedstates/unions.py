"""Uniting two holdings of one tape."""

from movedstates.blocks import stretches
from movedstates.checks import refuse_other
from movedstates.errors import Unclear
from movedstates.holdings import Holding
from movedstates.kinds import kind_named
from movedstates.overlaps import (common_values, counted_blocks, determined, free_values, remaining_blocks,
                                  touching_pairs, values_without)
from movedstates.rows import row_from, row_values
from movedstates.segments import holes_between, joined_stretches


def unite(one, other):
    """The union of both holdings."""
    refuse_other(one, other)
    mine, theirs = counted_blocks(one, other)
    twice = counted_twice(mine, theirs) if one.kind == "bag" else []
    groups = groups_of(sorted(mine + theirs, key=lambda block: block[0]), one.gap)
    blocks = [united_block(one.kind, group, twice) for group in groups]
    return Holding(one.kind, one.gap, max(one.base, other.base), tuple(blocks))


def united(first, *others):
    """The union of the first holding with each of the others in turn."""
    union = first
    for other in others:
        union = unite(union, other)
    return union


def groups_of(blocks, gap):
    """The blocks, ascending by their lows, cut where one begins more than the gap behind all before it."""
    groups = []
    for block in blocks:
        if len(groups) > 0 and block[2] <= max([before[3] for before in groups[-1]]) + gap:
            groups[-1].append(block)
        else:
            groups.append([block])
    return groups


def united_block(kind, group, twice):
    """The one block of the group."""
    high = max([block[1] for block in group])
    first = min([block[2] for block in group])
    last = max([block[3] for block in group])
    return group[0][0], high, first, last, united_row(kind, group, twice)


def united_row(kind, group, twice):
    """The row of the one block of the group."""
    named = kind_named(kind)
    if named.OUTER:
        # These two blocks know the first and the last letter of the group.
        latest = max(group, key=lambda block: block[1])
        return row_from(kind, group[0][4] + latest[4])
    pieces = [piece for block in group for piece in stretches(block)]
    if named.PLACED:
        return joined_stretches(kind, pieces)
    values = [value for block in group for value in row_values(block[4])]
    for low, doubles in twice:
        if low in [block[0] for block in group]:
            values = values_without(values, doubles)
    return row_from(kind, values + holes_between(pieces))


def counted_twice(mine, theirs):
    """Values that stand in two blocks of bags, each list of them with the low of a block of the same group.

    Raises Unclear if that cannot be known.
    """
    one, other = remaining_blocks(mine, theirs)
    swallowed = [block for block in mine if block not in one] + [block for block in theirs if block not in other]
    twice = [(block[0], row_values(block[4])) for block in swallowed]
    for left, right, shared in touching_pairs(mine, theirs):
        free, free_other = free_values(left, theirs), free_values(right, mine)
        if not determined(free, free_other, shared):
            raise Unclear()
        twice.append((left[0], common_values(free, free_other)[:shared]))
    return twice
