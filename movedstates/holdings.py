"""Holdings: what is kept of the letters of a key while some numbers are missing."""

from movedstates.blocks import blocks_from, covers, joined_blocks, letter_block, spread, stretches
from movedstates.checks import checked_kind
from movedstates.errors import BadText, BadToken, NoLetters, NotFitting, OutOfOrder
from movedstates.gates import fitting
from movedstates.holdingtexts import block_line, head_line, holding_in
from movedstates.possibles import possible
from movedstates.rows import put_in_row, row_holes, row_values


class Holding:
    """A base and blocks with holes; it never changes."""

    def __init__(self, kind, gap, base, blocks):
        self.kind = kind
        self.gap = gap
        self.base = base
        self.blocks = blocks

    @classmethod
    def empty(cls, kind, *, gap, base=0):
        """The holding of no letters."""
        checked_kind(kind, gap)
        return cls(kind, gap, base, ())

    @classmethod
    def of(cls, kind, letters, *, gap, base=0):
        """The holding of the letters, in any order."""
        checked_kind(kind, gap)
        if not fitting(letters):
            raise NotFitting()
        kept = [letter for letter in letters if letter[0] >= base]
        return cls(kind, gap, base, blocks_from(kind, kept, gap=gap))

    @classmethod
    def made(cls, kind, blocks, *, gap, base=0):
        """The holding with these blocks."""
        if not possible(kind, blocks, gap=gap, base=base):
            raise NoLetters()
        return cls(kind, gap, base, tuple(blocks))

    @classmethod
    def read(cls, text):
        """The holding of the text."""
        try:
            kind, gap, base, blocks = holding_in(text)
        except BadToken:
            raise BadText(text) from None
        if not possible(kind, blocks, gap=gap, base=base):
            raise BadText(text)
        return cls(kind, gap, base, blocks)

    def write(self):
        """The text of the holding."""
        lines = [block_line(block) for block in self.blocks]
        return "\n".join([head_line(self.kind, self.gap, self.base)] + lines)

    @property
    def top(self):
        """The high of the last block, or the base if there are no blocks."""
        return self.blocks[-1][1] if len(self.blocks) > 0 else self.base

    @property
    def size(self):
        """How much is kept."""
        return 1 + sum([block_size(block) for block in self.blocks])

    def __len__(self):
        return len(self.blocks)

    def __iter__(self):
        return iter(self.blocks)

    def __contains__(self, number):
        return number < self.base or any([covers(block, number) for block in self.blocks])

    def __eq__(self, other):
        return (isinstance(other, Holding) and self.kind == other.kind and self.gap == other.gap
                and self.base == other.base and self.blocks == other.blocks)

    def room(self, number):
        """The least and the most time of a missing number; None for a covered one."""
        if number in self:
            return None
        at = self._place(number)
        before, behind = self.blocks[:at], self.blocks[at:]
        if len(behind) > 0 and spread(behind[0], number):
            return behind[0][2], behind[0][3]
        least = before[-1][3] if len(before) > 0 else None
        most = behind[0][2] if len(behind) > 0 else None
        return least, most

    def missing(self, count):
        """The longest runs of missing numbers below count."""
        runs = []
        start = self.base
        for block in self.blocks:
            for known, end, _ in stretches(block):
                runs.append((start, known))
                start = end
        runs.append((start, count))
        return [(low, min(high, count)) for low, high in runs if low < min(high, count)]

    def put(self, number, time, value):
        """The holding with the letter put."""
        if number in self:
            return self
        if outside(time, self.room(number)):
            raise OutOfOrder((number, time, value))
        at = self._place(number)
        before, behind = self.blocks[:at], self.blocks[at:]
        if len(behind) > 0 and spread(behind[0], number):
            low, high, first, last, row = behind[0]
            middle = (low, high, first, last, put_in_row(self.kind, row, number, value))
            return self._with(before + (middle,) + behind[1:])
        middle = letter_block(self.kind, number, time, value)
        if len(before) > 0 and time <= before[-1][3] + self.gap:
            middle = joined_blocks(self.kind, before[-1], middle)
            before = before[:-1]
        if len(behind) > 0 and behind[0][2] <= time + self.gap:
            middle = joined_blocks(self.kind, middle, behind[0])
            behind = behind[1:]
        return self._with(before + (middle,) + behind)

    def _place(self, number):
        """The index of the first block that does not lie before the number."""
        return len([block for block in self.blocks if block[1] <= number])

    def _with(self, blocks):
        """The holding with these blocks instead."""
        return Holding(self.kind, self.gap, self.base, blocks)


def block_size(block):
    """How much is kept of the block."""
    return 4 + len(row_values(block[4])) + 2 * len(row_holes(block[4]))


def outside(time, room):
    """Whether the time is outside of the room."""
    least, most = room
    return (least is not None and time < least) or (most is not None and time > most)
