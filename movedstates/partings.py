"""Partings: why unequal holdings have different futures."""

from movedstates.checks import refuse_other
from movedstates.errors import OutOfOrder
from movedstates.holdings import outside
from movedstates.ripening import tell
from movedstates.rows import row_values


def future(holding, letters, count):
    """Which letter is refused, or which sessions are told behind the letters."""
    reached, at = put_in_turn(holding, letters)
    if at < len(letters):
        return "refused", at
    told, _ = tell(reached, (count, None))
    return "told", told


def put_in_turn(holding, letters):
    """The holding with the letters put up to the first one that is refused, and how many these are."""
    for at, (number, time, value) in enumerate(letters):
        try:
            holding = holding.put(number, time, value)
        except OutOfOrder:
            return holding, at
    return holding, len(letters)


def parting(one, other):
    """None if the holdings are equal; otherwise letters and a count with different futures."""
    refuse_other(one, other)
    if one == other:
        return None
    letters = parting_letters(one, other)
    ends = [put_in_turn(holding, letters)[0] for holding in (one, other)]
    return letters, max([end.top for end in ends])


def parting_letters(one, other):
    """The letters of a parting of unequal holdings."""
    number = covered_once(one, other)
    if number is not None and number in one:
        return refused_letters(one, other, number)
    if number is not None:
        return refused_letters(other, one, number)
    for start, _ in one.missing(one.top):
        time = parting_time(one.room(start), other.room(start))
        if time is not None:
            return [(start, time, 0)]
    return filling(one, other)


def covered_once(one, other):
    """A number that just one of the holdings covers, or None."""
    count = max(one.top, other.top)
    # Where the runs of missing numbers differ, they differ at a bound of one of them.
    for run in one.missing(count) + other.missing(count):
        for number in run:
            if (number in one) != (number in other):
                return number
    return None


def refused_letters(covering, lacking, number):
    """Letters of which lacking, where the number is missing, refuses the last one, and covering none."""
    least, most = lacking.room(number)
    if least is not None:
        return [(number, least - 1, 0)]
    if most is not None:
        return [(number, most + 1, 0)]
    # Without blocks nothing is refused: a letter above all others gives the number a room.
    time = covering.blocks[-1][3] if len(covering) > 0 else 0
    return [(covering.top, time, 0), (number, time + 1, 0)]


def parting_time(one, other):
    """A time that is outside of just one of the rooms, or None if they are equal."""
    for bound in [*one, *other]:
        if bound is not None:
            for time in (bound - 1, bound, bound + 1):
                if outside(time, one) != outside(time, other):
                    return time
    return None


def filling(one, other):
    """Letters for all missing numbers, by which no two blocks are joined and nothing that differs is lost.

    Both holdings have the same rooms. Each value is a new one, so that all stand in the rows of placed kinds.
    """
    letters = []
    value = greatest_value(one, other)
    late = parted_behind(one, other)
    for start, end in one.missing(one.top):
        time = filling_time(one.room(start), one.gap, late)
        for number in range(start, end):
            value = value + 1
            letters.append((number, time, value))
    return letters


def greatest_value(one, other):
    """The greatest value of both holdings."""
    return max([value for block in one.blocks + other.blocks for value in row_values(block[4])], default=0)


def filling_time(room, gap, late):
    """A time in the room with which a letter lengthens just one block, the one behind it if late is True."""
    least, most = room
    if least is None:
        return most - gap - 1
    return most if late else least


def parted_behind(one, other):
    """Whether it is the last values of blocks that must be left as they are, not the first ones."""
    if one.kind == "ends":
        return all([left[4][0] == right[4][0] for left, right in zip(one.blocks, other.blocks)])
    return one.kind == "last"
