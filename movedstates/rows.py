"""Rows: the kept values of a block, and its holes."""

from movedstates.kinds import kind_named


def row_from(kind, entries):
    """The row of the entries under the kind."""
    named = kind_named(kind)
    values = row_values(entries)
    if named.OUTER:
        return named.plain(values)
    if named.ORDERLESS:
        return named.plain(values) + tuple(sorted(row_holes(entries)))
    places = [at for at, entry in enumerate(entries) if not is_hole(entry)]
    kept = {places[at]: True for at in named.keep(values)}
    return tuple([entry for at, entry in enumerate(entries) if is_hole(entry) or at in kept])


def is_hole(entry):
    """Whether the entry is a hole."""
    return isinstance(entry, tuple)


def row_values(row):
    """The values of the row, in their order."""
    return [entry for entry in row if not is_hole(entry)]


def row_holes(row):
    """The holes of the row, in their order."""
    return [entry for entry in row if is_hole(entry)]


def put_in_row(kind, row, number, value):
    """The row in which the number, which is in a hole, has the value."""
    entries = []
    for entry in row:
        if is_hole(entry) and entry[0] <= number < entry[1]:
            entries.extend(filled_hole(entry, number, value))
        else:
            entries.append(entry)
    return row_from(kind, entries)


def filled_hole(hole, number, value):
    """The entries that the hole gives way to."""
    start, end = hole
    before = hole_between(start, number)
    behind = hole_between(number + 1, end)
    return before + [value] + behind


def hole_between(start, end):
    """A list of the hole of the numbers from start to end - 1, empty if there are none."""
    return [(start, end)] if start < end else []


def joined_rows(kind, left, hole, right):
    """The row of the entries of left, the hole, if it is not None, and the entries of right."""
    between = [] if hole is None else [hole]
    return row_from(kind, list(left) + between + list(right))
