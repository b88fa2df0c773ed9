"""The checks that come ahead of all others."""

from movedstates.errors import BadGap
from movedstates.kinds import kind_named


def checked_kind(kind, gap):
    """A new object of the class of this kind; BadKind comes ahead of BadGap."""
    named = kind_named(kind)
    if gap < 0:
        raise BadGap(gap)
    return named
