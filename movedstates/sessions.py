"""The sessions of letters."""

from movedstates.checks import checked_kind
from movedstates.errors import NotFitting


def cut_sessions(kind, letters, *, gap):
    """The sessions of all letters of a key, which are numbered from 0 on."""
    named = checked_kind(kind, gap)
    if not complete(letters):
        raise NotFitting()
    return sessions_within(named, letters, gap)


def told_sessions(kind, letters, mark, *, gap):
    """Those sessions of the letters that are told at the mark."""
    return told_part(cut_sessions(kind, letters, gap=gap), mark, gap)


def joined_sessions(kind, left, right, *, gap):
    """The sessions of all letters, from those of the first letters and those of the rest."""
    named = checked_kind(kind, gap)
    if len(left) == 0 or len(right) == 0:
        return list(left) + list(right)
    before = left[-1]
    if right[0][2] < before[3]:
        raise NotFitting()
    raised = [raised_session(session, before[1]) for session in right]
    behind = raised[0]
    if behind[2] > before[3] + gap:
        return list(left) + raised
    both = (before[0], behind[1], before[2], behind[3], named.plain(before[4] + behind[4]))
    return list(left[:-1]) + [both] + raised[1:]


def complete(letters):
    """Whether the letters are numbered 0, 1, 2 and so on in this order, and no time is below the one before it."""
    numbered = all([letter[0] == at for at, letter in enumerate(letters)])
    return numbered and all([one[1] <= other[1] for one, other in zip(letters, letters[1:])])


def chains_of(letters, gap):
    """The letters, in ascending order, cut where two neighbours are farther apart than the gap."""
    chains = []
    for letter in letters:
        if len(chains) > 0 and letter[1] <= chains[-1][-1][1] + gap:
            chains[-1].append(letter)
        else:
            chains.append([letter])
    return chains


def sessions_within(named, letters, gap):
    """The sessions of letters that stand one behind another, whatever the first number is."""
    return [session_of(named, chain) for chain in chains_of(letters, gap)]


def session_of(named, chain):
    """The one session of these letters."""
    value = named.plain([letter[2] for letter in chain])
    return chain[0][0], chain[-1][0] + 1, chain[0][1], chain[-1][1], value


def raised_session(session, count):
    """The session with its numbers raised by a count."""
    low, high, first, last, value = session
    return low + count, high + count, first, last, value


def told_part(sessions, mark, gap):
    """Those of all sessions of a key that are told at the mark."""
    if len(sessions) > 0 and not closed_by(mark, sessions[-1], gap):
        return sessions[:-1]
    return list(sessions)


def closed_by(mark, session, gap):
    """Whether the mark says that no further letter belongs to the session."""
    if mark is None:
        return False
    count, floor = mark
    return count <= session[1] and (floor is None or floor > session[3] + gap)
