"""Whether it matters in which order parcels without numbers arrive."""

from movedstates.kinds import kind_named


def shuffles(u, v):
    """All shuffles of both lists, those that begin with a parcel of u first."""
    if len(u) == 0 or len(v) == 0:
        yield list(u) + list(v)
        return
    less = u[1:]
    for rest in shuffles(less, v):
        yield [u[0]] + rest
    less = v[1:]
    for rest in shuffles(u, less):
        yield [v[0]] + rest


def free_shuffles(kind, u, v, *, before=(), after=()):
    """None if all shuffles have alike words, otherwise the words of two that have not."""
    named = kind_named(kind)
    if named.NAME == "list":
        return parted_parcels(u, v, before, after)
    one, other = word_of(before, u + v, after), word_of(before, v + u, after)
    return None if named.plain(one) == named.plain(other) else (one, other)


def parted_parcels(u, v, before, after):
    """For list: None, or the words of two shuffles in which just one parcel of each changes places with the other."""
    for i, one in enumerate(u):
        for j, other in enumerate(v):
            if one + other != other + one:
                ahead, behind = u[:i] + v[:j], u[i + 1:] + v[j + 1:]
                words = [word_of(before, ahead + pair + behind, after) for pair in ([one, other], [other, one])]
                return tuple(words)
    return None


def free_orders(kind, parcels, *, before=(), after=()):
    """None if all orders have alike words, otherwise the words of two that have not."""
    named = kind_named(kind)
    if named.ORDERLESS:
        return None
    for ahead in (True, False):
        for i in range(len(parcels)):
            for j in range(i + 1, len(parcels)):
                one = word_of(before, moved_pair(parcels, i, j, ahead), after)
                other = word_of(before, moved_pair(parcels, j, i, ahead), after)
                if named.plain(one) != named.plain(other):
                    return one, other
    return None


def moved_pair(parcels, i, j, ahead):
    """The parcels at i and j, in this order, ahead of the rest, or else behind it."""
    pair = [parcels[i], parcels[j]]
    rest = [parcel for at, parcel in enumerate(parcels) if at != i and at != j]
    return pair + rest if ahead else rest + pair


def word_of(before, parcels, after):
    """The word of a list of parcels with the words that stand around them."""
    word = list(before)
    for parcel in parcels:
        word.extend(parcel)
    return tuple(word + list(after))
