"""The parts that a holding can be split into."""

from movedstates.holdings import Holding


def parts_of(holding):
    """The holding of no letters with the same base, and each block by itself with the base 0."""
    empty = Holding.empty(holding.kind, gap=holding.gap, base=holding.base)
    return [empty] + [Holding(holding.kind, holding.gap, 0, (block,)) for block in holding.blocks]
