"""What two blocks of bags have in common, and whether that is enough to unite them."""

from movedstates.blocks import known_numbers, stretches
from movedstates.checks import refuse_other
from movedstates.errors import Unclear
from movedstates.possibles import how_many_known
from movedstates.rows import row_values


def common_values(one, other):
    """The greatest bag that is in both lists of values, ascending."""
    rest = list(other)
    common = []
    for value in sorted(one):
        if value in rest:
            rest.remove(value)
            common.append(value)
    return common


def determined(one, other, shared):
    """Whether two blocks with these free values and this many common known numbers are determined."""
    if shared == 0:
        return True
    common = common_values(one, other)
    return len(common) == shared or common[0] == common[-1]


def unclear(one, other):
    """None, or two lists of tuples (number, value) that show that a pair is not determined."""
    refuse_other(one, other)
    if one.kind != "bag":
        return None
    mine, theirs = counted_blocks(one, other)
    for left, right, shared in touching_pairs(mine, theirs):
        free, free_other = free_values(left, theirs), free_values(right, mine)
        if not determined(free, free_other, shared):
            common = common_values(free, free_other)
            # The least ones differ from the greatest ones, as there are more than shared and not all are equal.
            ways = (common[:shared], common[-shared:])
            return tuple([reading(left, right, mine, theirs, chosen) for chosen in ways])
    return None


def counted_blocks(one, other):
    """Two lists: the blocks of one and those of other that do not lie below the greater base."""
    base = max(one.base, other.base)
    mine = [block for block in one.blocks if block[1] > base]
    theirs = [block for block in other.blocks if block[1] > base]
    return mine, theirs


def shared_numbers(block, other):
    """How many known numbers both blocks have."""
    # Most blocks are far apart, and their stretches need not be looked at.
    if block[1] <= other[0] or other[1] <= block[0]:
        return 0
    pairs = [(piece, part) for piece in stretches(block) for part in stretches(other)]
    return sum([max(0, min(piece[1], part[1]) - max(piece[0], part[0])) for piece, part in pairs])


def swallows(block, other):
    """Whether all known numbers of the other block are known numbers of this one."""
    return shared_numbers(block, other) == how_many_known(other)


def remaining_blocks(mine, theirs):
    """Both lists without the blocks that a remaining block of the other list swallows."""
    other = [block for block in theirs if not any([swallows(greater, block) for greater in mine])]
    one = [block for block in mine if not any([swallows(greater, block) for greater in other])]
    return one, other


def touching_pairs(mine, theirs):
    """Tuples of two remaining blocks that touch and how many numbers they share; Unclear if a block touches two."""
    one, other = remaining_blocks(mine, theirs)
    pairs = [(left, right, shared_numbers(left, right)) for left in one for right in other]
    touching = [pair for pair in pairs if pair[2] > 0]
    # No two blocks of a holding have one low.
    for at in (0, 1):
        if len(set([pair[at][0] for pair in touching])) < len(touching):
            raise Unclear()
    return touching


def free_values(block, others):
    """The values of the block without those of the blocks that it swallows."""
    values = row_values(block[4])
    for other in others:
        if swallows(block, other):
            values = values_without(values, row_values(other[4]))
    return values


def values_without(values, gone):
    """The values without others, each left out as often as it stands among these."""
    rest = list(values)
    for value in gone:
        rest.remove(value)
    return rest


def reading(left, right, mine, theirs, chosen):
    """All known numbers of both blocks with values, the chosen ones for the numbers that both know."""
    both = [number for number in known_numbers(right) if number in known_numbers(left)]
    known = {number: value for number, value in zip(both, chosen)}
    for block, others in ((left, theirs), (right, mine)):
        for other in others:
            if swallows(block, other):
                known.update(list(zip(known_numbers(other), row_values(other[4]))))
        lacking = [number for number in known_numbers(block) if number not in known]
        known.update(list(zip(lacking, values_without(free_values(block, others), chosen))))
    return [(number, known[number]) for number in sorted(known)]
