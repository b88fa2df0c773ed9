"""Schemes: points 53 to 55, with 3."""

import itertools
import random
import unittest

from movedstates.errors import BadLine, BadScheme
from movedstates.schemes import Scheme

ANY = ("any",)


def make(name):
    return ("make", name)


RULES = [(make("a"), ((make("q"), "<", 1),)), (make("b"), ()), (make("a"), ((make("q"), ">=", 2), (ANY, "<", 4), (make("b"), "<", 3)))]
TEXT = "take make a if seen make q < 1\ntake make b\ntake make a if seen make q >= 2 and seen any < 4 and seen make b < 3"
MAKES = ["a", "b", "any", "if"]


def takes_by_the_words(rules, make, seen):
    """Point 55."""
    def belongs(one, group):
        return group[0] == "any" or group[1] == one
    for group, bounds in rules:
        if belongs(make, group):
            found = []
            for bounded, sign, number in bounds:
                many = sum(belongs(one, bounded) for one in seen)
                found.append(many < number if sign == "<" else many >= number)
            if all(found):
                return True
    return False


def random_group(source):
    return ANY if source.random() < 0.4 else make(source.choice(MAKES))


def random_scheme(source):
    return Scheme([(random_group(source), tuple((random_group(source), source.choice(("<", ">=")), source.randint(1, 4))
                                                for _ in range(source.choice((0, 1, 1, 2, 3))))) for _ in range(source.randint(0, 4))])


class MadeTest(unittest.TestCase):

    def test_rules(self):
        rules = list(RULES)
        scheme = Scheme(rules)
        self.assertEqual([scheme.rules, len(scheme)], [RULES, 3])
        rules.clear()
        self.assertEqual([scheme.rules, len(scheme)], [RULES, 3])
        self.assertEqual([Scheme([]).rules, len(Scheme([]))], [[], 0])
        self.assertEqual([Scheme.MOST, Scheme.MOST_BOUNDS], [4, 3])

    def test_bad_scheme(self):
        bound = (ANY, "<", 1)
        self.assertEqual(len(Scheme([(ANY, (bound,) * 3)] * 4)), 4)
        for rules in ([(ANY, ())] * 5, [(ANY, (bound,) * 4)], [(ANY, ()), (ANY, (bound,) * 3), (ANY, (bound,) * 4)]):
            with self.assertRaises(BadScheme):
                Scheme(rules)

    def test_equality(self):
        scheme = Scheme(RULES)
        self.assertIs(scheme == Scheme(list(RULES)), True)
        self.assertIs(scheme != Scheme(list(RULES)), False)
        for rules in (RULES[::-1], RULES[:2], [], RULES[:2] + [(make("a"), ())]):
            self.assertIs(scheme == Scheme(rules), False)
            self.assertIs(scheme != Scheme(rules), True)
        for thing in (RULES, TEXT, None, 3, object()):
            self.assertIs(scheme == thing, False)

    def test_one_behind_another(self):
        one, other = Scheme(RULES[:1]), Scheme(RULES[1:])
        self.assertEqual((one + other).rules, RULES)
        self.assertEqual((other + one).rules, RULES[1:] + RULES[:1])
        self.assertEqual([one.rules, other.rules], [RULES[:1], RULES[1:]])
        self.assertEqual((one + Scheme([])).rules, RULES[:1])
        self.assertEqual(len(other + other), 4)
        both = one + other
        both.rules.clear()
        self.assertEqual([one.rules, other.rules], [RULES[:1], RULES[1:]])
        with self.assertRaises(BadScheme):
            Scheme(RULES) + other
        self.assertEqual(other.rules, RULES[1:])

    def test_methods_stand_in_the_class(self):
        for name in ("__init__", "read", "write", "takes", "__len__", "__eq__", "__add__", "MOST", "MOST_BOUNDS"):
            self.assertIn(name, vars(Scheme))


class TakesTest(unittest.TestCase):

    def answer(self, text, make, seen):
        kept = list(seen)
        found = Scheme.read(text).takes(make, seen)
        self.assertIs(type(found), bool)
        self.assertEqual(seen, kept)
        return found

    def test_no_rules(self):
        for seen in ([], ["a", "b"]):
            self.assertFalse(self.answer("", "a", seen))

    def test_groups(self):
        self.assertTrue(self.answer("take any", "a", []))
        self.assertTrue(self.answer("take make a", "a", ["a", "b"]))
        self.assertFalse(self.answer("take make a", "b", []))
        self.assertFalse(self.answer("take make any", "b", []))
        self.assertTrue(self.answer("take make any", "any", []))
        self.assertTrue(self.answer("take make b\ntake make a", "a", []))

    def test_each_sign_and_number(self):
        for number in (1, 2, 3, 4):
            for many in range(6):
                self.assertIs(self.answer(f"take any if seen any < {number}", "a", ["b"] * many), many < number)
                self.assertIs(self.answer(f"take any if seen any >= {number}", "a", ["b"] * many), many >= number)
                seen = ["a", "b"] * many
                self.assertIs(self.answer(f"take any if seen make b < {number}", "a", seen), many < number)
                self.assertIs(self.answer(f"take any if seen make b >= {number}", "a", seen), many >= number)

    def test_all_bounds_of_one_rule(self):
        text = "take any if seen make a >= 1 and seen make b < 2 and seen any >= 2"
        self.assertTrue(self.answer(text, "c", ["a", "b"]))
        self.assertTrue(self.answer(text, "c", ["c", "a"]))
        self.assertFalse(self.answer(text, "c", ["b", "c"]))
        self.assertFalse(self.answer(text, "c", ["a", "b", "b"]))
        self.assertFalse(self.answer(text, "c", ["a"]))

    def test_makes_that_nobody_has(self):
        self.assertFalse(self.answer("take make z", "a", []))
        self.assertFalse(self.answer("take any if seen make z >= 1", "a", ["a", "b"]))
        self.assertTrue(self.answer("take any if seen make z < 1", "a", ["a", "b"]))

    def test_against_the_words(self):
        source = random.Random(55)
        for _ in range(300):
            scheme = random_scheme(source)
            for _ in range(10):
                seen = [source.choice(MAKES) for _ in range(source.randint(0, 5))]
                for one in MAKES:
                    self.assertIs(scheme.takes(one, seen), takes_by_the_words(scheme.rules, one, seen))


class TextTest(unittest.TestCase):

    def test_read_and_written(self):
        self.assertEqual(Scheme.read(TEXT).rules, RULES)
        self.assertEqual(Scheme(RULES).write(), TEXT)

    def test_the_empty_text(self):
        self.assertEqual(Scheme.read(""), Scheme([]))
        self.assertEqual(Scheme([]).write(), "")

    def test_names_that_are_words_of_the_text(self):
        for name in ("if", "any", "make", "take", "seen", "and", "abcdefgh"):
            text = f"take make {name} if seen make {name} < 1 and seen make {name} >= 4"
            rule = (make(name), ((make(name), "<", 1), (make(name), ">=", 4)))
            self.assertEqual(Scheme.read(text).rules, [rule])
            self.assertEqual(Scheme([rule]).write(), text)
            self.assertEqual(Scheme.read(f"take make {name}").rules, [(make(name), ())])
        self.assertEqual(Scheme.read("take any if seen any < 1").rules, [(ANY, ((ANY, "<", 1),))])

    def test_read_back(self):
        source = random.Random(54)
        for _ in range(200):
            scheme = random_scheme(source)
            self.assertEqual(Scheme.read(scheme.write()), scheme)

    def check(self, text, number):
        with self.subTest(text):
            with self.assertRaises(BadLine) as caught:
                Scheme.read(text)
            self.assertEqual(caught.exception.number, number)

    def test_lines_of_another_form(self):
        wrong = ["", " ", "take", "take ", "any", "take make", "take make ", "take a", "take make A", "take make abcdefghi",
                 "take any ", " take any", "take  any", "take any any", "take any if", "take any if ", "take any and seen any < 1",
                 "take any if seen", "take any if seen any", "take any if seen any <", "take any if seen any < 0",
                 "take any if seen any < 5", "take any if seen any < 01", "take any if seen any < +1", "take any if seen any < 12",
                 "take any if seen any > 1", "take any if seen any <= 1", "take any if seen any = 1", "take any if seen any == 1",
                 "take any if seen any << 1", "take any if seen any 1 <", "take any if seen a < 1", "take any if seen make < 1",
                 "take any if seen make A < 1", "take any if any < 1", "take any seen any < 1", "take make if seen any < 1",
                 "take any if seen any < 1 ", "take any if  seen any < 1", "take any if seen any  < 1", "take any if seen any < 1 and",
                 "take any if seen any < 1 and ", "take any if seen any < 1 if seen any < 1", "take any if seen any < 1 seen any < 1",
                 "take any if seen any < 1 and and seen any < 1", "take any if if seen any < 1", "Take any", "take Any", "take any If seen any < 1",
                 "take any if seen any < 1 and any < 1", "take make a b", "takes any", "take any if seen any <1", "take any if seen any < one"]
        for line in wrong:
            if line != "":
                self.check(line, 1)
            self.check("take any\n" + line, 2)
            self.check("take any\ntake make a if seen any < 1\n" + line + "\nno", 3)

    def test_a_fourth_bound(self):
        bound = "seen any < 1"
        for many in range(1, 4):
            self.assertEqual(len(Scheme.read("take any if " + " and ".join([bound] * many)).rules[0][1]), many)
        self.check("take any if " + " and ".join([bound] * 4), 1)
        self.check("take any\ntake any if " + " and ".join([bound] * 5) + "\nno", 2)

    def test_a_fifth_line(self):
        self.assertEqual(len(Scheme.read("\n".join(["take any"] * 4))), 4)
        self.check("\n".join(["take any"] * 5), 5)
        self.check("\n".join(["take any"] * 7), 5)
        self.check("\n".join(["take any"] * 4 + ["no"]), 5)

    def test_a_last_line_feed(self):
        self.check("take any\n", 2)
        self.check("\n", 1)
        self.check("\n".join(["take any"] * 4) + "\n", 5)

    def test_all_short_texts(self):
        words = ["take", "any", "make", "if", "seen", "<", "1"]
        found = []
        for many in range(1, 4):
            for tokens in itertools.product(words, repeat=many):
                try:
                    Scheme.read(" ".join(tokens))
                    found.append(" ".join(tokens))
                except BadLine as error:
                    self.assertEqual(error.number, 1)
        self.assertEqual(found, ["take any"] + [f"take make {word}" for word in ("take", "any", "make", "if", "seen")])


if __name__ == "__main__":
    unittest.main()
