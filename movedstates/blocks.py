"""Blocks: letters that are together, whatever is missing between them."""

from movedstates.checks import checked_kind
from movedstates.rows import hole_between, is_hole, joined_rows, row_from, row_holes
from movedstates.sessions import chains_of


def letter_block(kind, number, time, value):
    """The block of one letter."""
    return number, number + 1, time, time, row_from(kind, [value])


def spread(block, number):
    """Whether the number is one of the block, known or missing."""
    return block[0] <= number < block[1]


def covers(block, number):
    """Whether the number is a known number of the block."""
    return spread(block, number) and not any([start <= number < end for start, end in row_holes(block[4])])


def stretches(block):
    """The longest runs of known numbers, with the values of the row that stand there."""
    found = []
    start, high, _, _, row = block
    values = []
    for entry in row:
        if is_hole(entry):
            found.append((start, entry[0], tuple(values)))
            start = entry[1]
            values = []
        else:
            values.append(entry)
    return found + [(start, high, tuple(values))]


def known_numbers(block):
    """The known numbers, ascending."""
    numbers = []
    for start, end, _ in stretches(block):
        numbers.extend(list(range(start, end)))
    return numbers


def joined_blocks(kind, left, right):
    """The joined block; right has the greater numbers."""
    hole = (left[1], right[0]) if left[1] < right[0] else None
    return left[0], right[1], left[2], right[3], joined_rows(kind, left[4], hole, right[4])


def blocks_from(kind, letters, *, gap):
    """The blocks of fitting letters, in any order."""
    checked_kind(kind, gap)
    return tuple([block_of(kind, chain) for chain in chains_of(sorted(letters), gap)])


def block_of(kind, chain):
    """The one block of these letters."""
    entries = [chain[0][2]]
    for before, behind in zip(chain, chain[1:]):
        entries.extend(hole_between(before[0] + 1, behind[0]))
        entries.append(behind[2])
    return chain[0][0], chain[-1][0] + 1, chain[0][1], chain[-1][1], row_from(kind, entries)
