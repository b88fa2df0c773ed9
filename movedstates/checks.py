"""The checks that come ahead of all others."""

from movedstates.errors import BadGap, OtherHolding
from movedstates.kinds import kind_named


def checked_kind(kind, gap):
    """A new object of the class of this kind; BadKind comes ahead of BadGap."""
    named = kind_named(kind)
    if gap < 0:
        raise BadGap(gap)
    return named


def refuse_other(one, other):
    """Raises OtherHolding if two holdings or heaps differ in kind or gap."""
    if one.kind != other.kind or one.gap != other.gap:
        raise OtherHolding()
