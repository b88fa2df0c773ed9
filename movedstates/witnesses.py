"""Witnesses: small tables that show that two words are not alike."""

from movedstates.errors import EmptyWord
from movedstates.kinds import alike, kind_named, plain_value
from movedstates.tables import Table

# The greater one; the left one; the right one; the last two with 0 as an element that changes nothing.
GREATER = ((0, 1), (1, 1))
LEFT = ((0, 0), (1, 1))
RIGHT = ((0, 1), (0, 1))
LEFT_OR_NONE = ((0, 1, 2), (1, 1, 1), (2, 2, 2))
RIGHT_OR_NONE = ((0, 1, 2), (1, 1, 2), (2, 1, 2))


def witness(kind, left, right):
    """None if the words are alike, otherwise a table and a reading that part them."""
    kind_named(kind)
    if len(left) == 0 or len(right) == 0:
        raise EmptyWord()
    if alike(kind, left, right):
        return None
    make = MAKERS[kind]
    rows, marked = make(left, right)
    reading = [(value, marked.get(value, 0)) for value in sorted(set(left) | set(right))]
    return Table(rows), reading


def part_lists(left, right):
    """The words within the shorter word, and 0 for all others.

    The longer word, or the other one of the same length, is not among them.
    """
    word = tuple(left if len(left) <= len(right) else right)
    ends = range(1, len(word) + 1)
    parts = sorted({word[start:end] for end in ends for start in range(end)})
    places = {part: at + 1 for at, part in enumerate(parts)}
    rows = [[0] * (len(parts) + 1)]
    for part in parts:
        rows.append([0] + [places.get(part + behind, 0) for behind in parts])
    return rows, {value: places[(value,)] for value in word}


def part_bags(left, right):
    """Counting one value, up to the greater one of its two numbers."""
    values = sorted(set(left) | set(right))
    counted = [value for value in values if left.count(value) != right.count(value)][0]
    most = max(left.count(counted), right.count(counted))
    counts = range(most + 1)
    return [[min(one + other, most) for other in counts] for one in counts], {counted: 1}


def part_sets(left, right):
    """Whether a value stands in the word."""
    return GREATER, {sorted(set(left) ^ set(right))[0]: 1}


def part_firsts(left, right):
    """The first value."""
    return LEFT, {left[0]: 1, right[0]: 0}


def part_lasts(left, right):
    """The last value."""
    return RIGHT, {left[-1]: 1, right[-1]: 0}


def part_ends(left, right):
    """The first value, or the last one if the first values are equal."""
    return part_firsts(left, right) if left[0] != right[0] else part_lasts(left, right)


def part_heads(left, right):
    """Which one of two values comes first."""
    if set(left) != set(right):
        return part_sets(left, right)
    pairs = list(zip(plain_value("heads", left), plain_value("heads", right)))
    one, other = [pair for pair in pairs if pair[0] != pair[1]][0]
    return LEFT_OR_NONE, {one: 1, other: 2}


def part_tails(left, right):
    """Which one of two values comes last."""
    if set(left) != set(right):
        return part_sets(left, right)
    pairs = list(zip(plain_value("tails", left), plain_value("tails", right)))
    one, other = [pair for pair in pairs if pair[0] != pair[1]][-1]
    return RIGHT_OR_NONE, {one: 1, other: 2}


MAKERS = {
    "list": part_lists,
    "bag": part_bags,
    "set": part_sets,
    "first": part_firsts,
    "last": part_lasts,
    "ends": part_ends,
    "heads": part_heads,
    "tails": part_tails,
}
