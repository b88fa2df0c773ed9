"""Whether a parcel that comes twice, or never, makes a difference."""

from movedstates.kinds import alike
from movedstates.shuffles import word_of


def free_repeat(kind, parcels, i, j, *, before=(), after=()):
    """Whether nothing changes if the parcel at i comes once more right behind the one at j."""
    repeated = parcels[:j + 1] + [parcels[i]] + parcels[j + 1:]
    return alike(kind, word_of(before, repeated, after), word_of(before, parcels, after))


def free_loss(kind, parcels, i, *, before=(), after=()):
    """Whether nothing changes if the parcel at i is left out."""
    left = parcels[:i] + parcels[i + 1:]
    return alike(kind, word_of(before, left, after), word_of(before, parcels, after))
