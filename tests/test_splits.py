"""The parts of a holding: point 38."""

import random
import unittest

from movedstates.holdings import Holding
from movedstates.kinds import KIND_NAMES
from movedstates.splits import parts_of
from movedstates.unions import united
from tests.helpers import parts_seen, random_letters


class PartsOfTest(unittest.TestCase):

    def test_parts(self):
        for kind in KIND_NAMES:
            holding = Holding.of(kind, [(3, 0, 5), (5, 1, 6), (6, 9, 7), (8, 30, 5)], gap=3, base=2)
            found = parts_of(holding)
            self.assertIs(type(found), list)
            wanted = [[kind, 3, 2, ()]] + [[kind, 3, 0, (block,)] for block in holding.blocks]
            self.assertEqual([parts_seen(part) for part in found], wanted)
            self.assertEqual([block[0] for part in found for block in part.blocks], [3, 6, 8])

    def test_no_blocks(self):
        for kind in KIND_NAMES:
            for base in (0, 7):
                empty = Holding.empty(kind, gap=1, base=base)
                self.assertEqual(parts_of(empty), [empty])

    def test_united_in_any_order_they_are_the_holding(self):
        source = random.Random(38)
        for _ in range(300):
            letters, gap, base = random_letters(source, most=9, full=False), source.randint(0, 3), source.randint(0, 3)
            for kind in KIND_NAMES:
                holding = Holding.of(kind, letters, gap=gap, base=base)
                parts = parts_of(holding)
                source.shuffle(parts)
                self.assertEqual(parts_seen(united(*parts)), parts_seen(holding))
                kept = parts_seen(holding)
                parts.clear()
                self.assertEqual(parts_seen(holding), kept)
                self.assertEqual(len(parts_of(holding)), len(holding) + 1)


if __name__ == "__main__":
    unittest.main()
