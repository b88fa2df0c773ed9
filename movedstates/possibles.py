"""Which blocks are those of some letters, and of which letters."""

from movedstates.blocks import known_numbers, stretches
from movedstates.checks import checked_kind
from movedstates.errors import NoLetters
from movedstates.rows import row_holes, row_values


def possible(kind, blocks, *, gap, base=0):
    """Whether some letters have a holding with this base and these blocks."""
    named = checked_kind(kind, gap)
    if base < 0:
        return False
    least = base
    before = None
    for block in blocks:
        low, high, first, last, _ = block
        if low < least or (before is not None and first <= before + gap):
            return False
        if not holes_fit(block) or not times_fit(block, gap) or not row_fits(named, block):
            return False
        least = high
        before = last
    return True


def holes_fit(block):
    """Whether the holes stand in order, with known numbers ahead of each and behind the last."""
    known, high, _, _, row = block
    for start, end in row_holes(row):
        if not known < start < end:
            return False
        known = end
    return known < high


def times_fit(block, gap):
    """Whether the known numbers are enough to get from the first time to the last."""
    _, _, first, last, _ = block
    return first <= last <= first + (how_many_known(block) - 1) * gap


def how_many_known(block):
    """How many known numbers the block has."""
    low, high, _, _, row = block
    return high - low - sum([end - start for start, end in row_holes(row)])


def row_fits(named, block):
    """Whether the row is one of the kind, for a block whose holes fit."""
    if named.OUTER:
        return outer_row_fits(named, block)
    if named.ORDERLESS:
        return orderless_row_fits(named, block)
    return placed_row_fits(named, block)


def outer_row_fits(named, block):
    """Whether the row has the values of its ends, and no hole."""
    low, high, _, _, row = block
    if len(row_holes(row)) > 0:
        return False
    if named.NAME != "ends":
        return len(row) == 1
    return len(row) == 2 and (high > low + 1 or row[0] == row[1])


def orderless_row_fits(named, block):
    """Whether the row has enough values, ascending, and then the holes."""
    row = block[4]
    values = row_values(row)
    if row != named.plain(values) + tuple(row_holes(row)):
        return False
    many = how_many_known(block)
    if named.NAME == "bag":
        return len(values) == many
    return 1 <= len(values) <= many


def placed_row_fits(named, block):
    """Whether each stretch has the values that it can have."""
    values = tuple(row_values(block[4]))
    # Under list any values are plain, under heads and tails only different ones.
    if named.plain(values) != values:
        return False
    pieces = stretches(block)
    if named.NAME == "list":
        return all([len(piece[2]) == piece[1] - piece[0] for piece in pieces])
    if any([len(piece[2]) > piece[1] - piece[0] for piece in pieces]):
        return False
    certain = pieces[0] if named.NAME == "heads" else pieces[-1]
    return len(certain[2]) > 0


def letters_for(kind, blocks, *, gap):
    """Letters, one for each known number, that have these blocks."""
    if not possible(kind, blocks, gap=gap):
        raise NoLetters()
    named = checked_kind(kind, gap)
    letters = []
    for block in blocks:
        letters.extend(list(zip(known_numbers(block), times_for(block, gap), values_for(named, block))))
    return letters


def times_for(block, gap):
    """A time for each known number: as far on as the gap lets them, up to the last time."""
    _, _, first, last, _ = block
    return [min(first + at * gap, last) for at in range(how_many_known(block))]


def values_for(named, block):
    """A value for each known number."""
    values = row_values(block[4])
    if named.PLACED:
        return placed_values(named, block)
    many = how_many_known(block)
    # Between the ends, and where the order does not matter, any value of the row does no harm.
    if named.OUTER:
        return values[:1] * (many - 1) + values[-1:]
    return values + values[:1] * (many - len(values))


def placed_values(named, block):
    """A value for each known number of a block of a placed kind."""
    values = row_values(block[4])
    found = []
    for start, end, own in stretches(block):
        lacking = end - start - len(own)
        # A value that stands at that end of the row is kept there alone.
        if named.NAME == "tails":
            found.extend([values[-1]] * lacking + list(own))
        else:
            found.extend(list(own) + [values[0]] * lacking)
    return found
