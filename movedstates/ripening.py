"""Which sessions a holding tells, and why it cannot tell more."""

from movedstates.holdings import Holding
from movedstates.rows import row_holes
from movedstates.sessions import closed_by


def ripe(holding, mark):
    """Whether there is a first block, and it is ripe at the mark."""
    return ripe_ahead(holding, 0, holding.base, mark)


def tell(holding, mark):
    """The told sessions, in order, and the holding that is left."""
    told = []
    base = holding.base
    while ripe_ahead(holding, len(told), base, mark):
        told.append(holding.blocks[len(told)])
        base = told[-1][1]
    return told, Holding(holding.kind, holding.gap, base, holding.blocks[len(told):])


def ripe_ahead(holding, at, base, mark):
    """Whether the block at this index is ripe, if it is the first one left and this is the base."""
    if at >= len(holding) or not whole(holding.blocks[at], base):
        return False
    block = holding.blocks[at]
    if at + 1 < len(holding) and holding.blocks[at + 1][0] == block[1]:
        return True
    return closed_by(mark, block, holding.gap)


def whole(block, base):
    """Whether the block begins at the base and has no hole."""
    return block[0] == base and len(row_holes(block[4])) == 0


def rival(kind, letters, mark, *, gap, base=0):
    """None, or letters from the base on in which the first block is not a session."""
    holding = Holding.of(kind, letters, gap=gap, base=base)
    if len(holding) == 0 or ripe(holding, mark):
        return None
    known = {letter[0]: letter for letter in letters if letter[0] >= base}
    block = holding.blocks[0]
    # Otherwise what is missing ahead of the block or in it is enough to change the session.
    if whole(block, base):
        known[block[1]] = (block[1], longer_time(block, mark), 0)
    return filled_before(known, base)


def longer_time(block, mark):
    """The least time of a letter that comes next, by a mark that does not keep it out of the session."""
    if mark is None or mark[0] > block[1]:
        return block[3]
    return max(block[3], mark[1])


def filled_before(known, base):
    """The known letters, with the missing ones up to the last of them.

    A missing letter gets the time of the next known one: a time below it might be too near to the letters below the
    base, or below the floor of the mark.
    """
    filled = []
    time = None
    for number in range(max(list(known)), base - 1, -1):
        letter = known.get(number, (number, time, 0))
        filled.append(letter)
        time = letter[1]
    return filled[::-1]
