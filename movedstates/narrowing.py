"""Narrowing a holding to a kind under its own."""

from movedstates.errors import NotUnder
from movedstates.holdings import Holding
from movedstates.kinds import under
from movedstates.rows import row_from


def narrowed(holding, kind):
    """The holding of the same letters under the kind."""
    if not under(kind, holding.kind):
        raise NotUnder(kind, holding.kind)
    blocks = [narrowed_block(block, kind) for block in holding.blocks]
    return Holding(kind, holding.gap, holding.base, tuple(blocks))


def narrowed_block(block, kind):
    """The block with the row of its entries under the kind."""
    low, high, first, last, row = block
    return low, high, first, last, row_from(kind, row)
