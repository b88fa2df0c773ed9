"""Tables: points 1, 2 and 9."""

import itertools
import unittest

from movedstates.errors import BadKind, BadTable, EmptyWord
from movedstates.kinds import KIND_NAMES, kind_named, rule_words
from movedstates.tables import Table
from tests.helpers import NOT_KINDS


def fault_by_the_words(rows, kind):
    """The fault of a table, straight from point 9."""
    size = range(len(rows))

    def fold(word):
        merged = word[0]
        for one in word[1:]:
            merged = rows[merged][one]
        return merged

    for a, b, c in itertools.product(size, repeat=3):
        if rows[rows[a][b]][c] != rows[a][rows[b][c]]:
            return "(12)3=1(23)", (a, b, c)
    for rule in kind_named(kind).RULES:
        left, right = rule_words(rule)
        for reading in itertools.product(size, repeat=len(set(left + right))):
            if fold([reading[at - 1] for at in left]) != fold([reading[at - 1] for at in right]):
                return rule, reading
    return None


class TableTest(unittest.TestCase):

    def test_rows_are_copied(self):
        rows = [[0, 1], [1, 1]]
        table = Table(rows)
        rows[0][0] = 1
        rows.append([0])
        self.assertEqual(table.rows(), [[0, 1], [1, 1]])
        table.rows()[0][0] = 1
        table.rows().append([0])
        self.assertEqual(table.rows(), [[0, 1], [1, 1]])
        self.assertEqual(table(0, 0), 0)

    def test_rows_of_tuples(self):
        self.assertEqual(Table(((0, 1), (1, 1))).rows(), [[0, 1], [1, 1]])
        self.assertEqual(Table(((0, 1), [1, 1])).rows(), [[0, 1], [1, 1]])

    def test_size_is_a_property(self):
        self.assertIsInstance(vars(Table)["size"], property)
        self.assertEqual([Table([[0]]).size, Table([[0, 0], [0, 0]]).size], [1, 2])

    def test_merging(self):
        table = Table([[0, 1, 2], [2, 1, 0], [1, 1, 2]])
        self.assertEqual([table(0, 2), table(2, 0), table(1, 0), table(1, 2)], [2, 1, 2, 0])

    def test_fold_from_the_left(self):
        table = Table([[0, 1, 2], [2, 1, 0], [1, 1, 2]])
        self.assertEqual(table.fold([2]), 2)
        self.assertEqual(table.fold((1, 0, 2)), table(table(1, 0), 2))
        self.assertEqual(table.fold([1, 2, 0, 1]), table(table(table(1, 2), 0), 1))
        self.assertNotEqual(table.fold((1, 0, 0)), table(1, table(0, 0)))

    def test_empty_word(self):
        for word in ([], ()):
            with self.assertRaises(EmptyWord):
                Table([[0]]).fold(word)

    def test_bad_tables(self):
        wrong = [([], 0), ((), 0), ([[]], 0), ([[0, 0]], 0), ([[1]], 0), ([[-1]], 0), ([[0, 1], [0]], 1),
                 ([[0, 1], [0, 2]], 1), ([[0, 1], [-1, 0]], 1), ([[0, 1], [0, 1, 0]], 1), ([[0], [0]], 0),
                 ([[0, 1, 2], [0, 3, 0], [5, 5]], 1), ([[0, 1, 2], [0, 1, 0], [0, 1, 3]], 2)]
        for rows, row in wrong:
            with self.subTest(str(rows)):
                with self.assertRaises(BadTable) as caught:
                    Table(rows)
                self.assertEqual(caught.exception.row, row)

    def test_a_table_of_one(self):
        for name in KIND_NAMES:
            self.assertIsNone(Table([[0]]).fault(name))

    def test_methods_stand_in_the_class(self):
        for name in ("rows", "fold", "fault", "size", "__call__", "__init__"):
            self.assertIn(name, vars(Table))


class FaultTest(unittest.TestCase):

    def test_all_tables_of_two(self):
        for flat in itertools.product((0, 1), repeat=4):
            rows = [list(flat[:2]), list(flat[2:])]
            for name in KIND_NAMES:
                self.assertEqual(Table(rows).fault(name), fault_by_the_words(rows, name))

    def test_some_tables_of_three(self):
        for at, flat in enumerate(itertools.product((0, 1, 2), repeat=9)):
            if at % 23 == 0 or at in (3 ** 9 - 1, 5):
                rows = [list(flat[:3]), list(flat[3:6]), list(flat[6:])]
                for name in KIND_NAMES:
                    self.assertEqual(Table(rows).fault(name), fault_by_the_words(rows, name))

    def test_known_faults(self):
        left = Table([[0, 0, 0], [1, 1, 1], [2, 2, 2]])
        self.assertEqual([left.fault(name) for name in KIND_NAMES],
                         [None, ("12=21", (0, 1)), ("12=21", (0, 1)), None, ("12=2", (0, 1)), None, None,
                          ("121=21", (0, 1))])
        zero = Table([[0, 0], [0, 0]])
        self.assertEqual(zero.fault("bag"), None)
        self.assertEqual(zero.fault("set"), ("11=1", (1,)))
        self.assertEqual(zero.fault("ends"), ("11=1", (1,)))
        greater = Table([[0, 1, 2], [1, 1, 2], [2, 2, 2]])
        self.assertEqual(greater.fault("ends"), ("123=13", (0, 1, 0)))
        self.assertEqual(greater.fault("first"), ("12=1", (0, 1)))
        self.assertEqual(greater.fault("last"), ("12=2", (1, 0)))

    def test_elements_are_a_tuple(self):
        rule, reading = Table([[0, 0], [0, 0]]).fault("set")
        self.assertIs(type(rule), str)
        self.assertIs(type(reading), tuple)

    def test_a_great_table(self):
        rows = [[min(one + other, 79) for other in range(80)] for one in range(80)]
        self.assertIsNone(Table(rows).fault("bag"))
        self.assertEqual(Table(rows).fault("set"), ("11=1", (1,)))
        self.assertIsNone(Table([[one] * 80 for one in range(80)]).fault("ends"))

    def test_bad_kind_comes_first(self):
        for thing in NOT_KINDS:
            with self.assertRaises(BadKind) as caught:
                Table([[0]]).fault(thing)
            self.assertIs(caught.exception.name, thing)

    def test_example(self):
        found = [Table([[0, 1], [0, 1]]).fault("heads"), Table([[1, 1], [0, 0]]).fault("heads")]
        self.assertEqual(found, [("121=12", (0, 1)), ("(12)3=1(23)", (0, 0, 0))])


if __name__ == "__main__":
    unittest.main()
