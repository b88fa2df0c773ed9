"""Kinds, plain values, the order of the kinds: points 1, 2 and 4 to 8."""

import unittest

from movedstates import kinds
from movedstates.errors import BadKind
from movedstates.kinds import (KIND_NAMES, alike, broken_rule, kind_named, plain_value, rule_words, sundered, under)
from tests.helpers import NOT_KINDS, kind_pairs, words_up_to

CLASSES = {
    "list": "Kind", "bag": "BagKind", "set": "SetKind", "first": "FirstKind", "last": "LastKind", "ends": "EndsKind",
    "heads": "HeadsKind", "tails": "TailsKind",
}
BASES = {
    "list": "object", "bag": "Kind", "set": "BagKind", "first": "HeadsKind", "last": "TailsKind", "ends": "Kind",
    "heads": "Kind", "tails": "Kind",
}
RULES = {
    "list": (), "bag": ("12=21",), "set": ("12=21", "11=1"), "first": ("12=1",), "last": ("12=2",),
    "ends": ("11=1", "123=13"), "heads": ("11=1", "121=12"), "tails": ("11=1", "121=21"),
}
UNDER = {
    "list": ("list",), "bag": ("list", "bag"), "set": ("list", "bag", "set", "heads", "tails"),
    "first": ("list", "first", "ends", "heads"), "last": ("list", "last", "ends", "tails"), "ends": ("list", "ends"),
    "heads": ("list", "heads"), "tails": ("list", "tails"),
}
KEPT = {
    "list": [0, 1, 2, 3, 4], "bag": [1, 4, 3, 0, 2], "set": [1, 3, 0], "first": [0], "last": [4], "ends": [0, 4],
    "heads": [0, 1, 3], "tails": [2, 3, 4],
}
PLAIN = {
    "list": (3, 1, 3, 2, 1), "bag": (1, 1, 2, 3, 3), "set": (1, 2, 3), "first": (3,), "last": (1,), "ends": (3, 1),
    "heads": (3, 1, 2), "tails": (3, 2, 1),
}
WORD = (3, 1, 3, 2, 1)


class ClassesTest(unittest.TestCase):

    def test_names_in_order(self):
        self.assertEqual(KIND_NAMES, ("list", "bag", "set", "first", "last", "ends", "heads", "tails"))

    def test_classes_and_bases(self):
        for name in KIND_NAMES:
            with self.subTest(name):
                made = kind_named(name)
                self.assertIs(type(made), getattr(kinds, CLASSES[name]))
                self.assertEqual([base.__name__ for base in type(made).__bases__], [BASES[name]])

    def test_each_call_makes_a_new_object(self):
        for name in KIND_NAMES:
            self.assertIsNot(kind_named(name), kind_named(name))

    def test_class_values(self):
        for name in KIND_NAMES:
            for one in (kind_named(name), getattr(kinds, CLASSES[name])()):
                with self.subTest(name):
                    self.assertEqual(one.NAME, name)
                    self.assertEqual(one.RULES, RULES[name])
                    self.assertIs(one.IDEMPOTENT, name not in ("list", "bag"))
                    self.assertIs(one.ORDERLESS, name in ("bag", "set"))
                    self.assertIs(one.PLACED, name in ("list", "heads", "tails"))
                    self.assertIs(one.OUTER, name in ("first", "last", "ends"))

    def test_keep_stands_in_each_class(self):
        for name in CLASSES.values():
            self.assertIn("keep", vars(getattr(kinds, name)))

    def test_plain_stands_in_the_base_alone(self):
        for name in CLASSES.values():
            self.assertIs("plain" in vars(getattr(kinds, name)), name == "Kind")

    def test_bad_kinds(self):
        for thing in NOT_KINDS:
            with self.subTest(str(thing)):
                with self.assertRaises(BadKind) as caught:
                    kind_named(thing)
                self.assertIs(caught.exception.name, thing)


class PlainValueTest(unittest.TestCase):

    def test_kept_indexes_and_plain_value(self):
        for name in KIND_NAMES:
            for one in (kind_named(name), getattr(kinds, CLASSES[name])()):
                with self.subTest(name):
                    self.assertEqual(one.keep(WORD), KEPT[name])
                    self.assertEqual(one.plain(WORD), PLAIN[name])
            self.assertEqual(plain_value(name, WORD), PLAIN[name])

    def test_empty_word(self):
        for name in KIND_NAMES:
            self.assertEqual(kind_named(name).keep(()), [])
            self.assertEqual(plain_value(name, ()), ())
            self.assertEqual(plain_value(name, []), ())

    def test_one_value(self):
        for name in KIND_NAMES:
            self.assertEqual(kind_named(name).keep((7,)), [0, 0] if name == "ends" else [0])
            self.assertEqual(plain_value(name, (7,)), (7, 7) if name == "ends" else (7,))

    def test_equal_values(self):
        wanted = {"list": [0, 1, 2], "bag": [0, 1, 2], "set": [0], "first": [0], "last": [2], "ends": [0, 2],
                  "heads": [0], "tails": [2]}
        for name in KIND_NAMES:
            self.assertEqual(kind_named(name).keep((4, 4, 4)), wanted[name])

    def test_negative_values(self):
        self.assertEqual(plain_value("bag", (2, -3, 0, -3)), (-3, -3, 0, 2))
        self.assertEqual(plain_value("set", (2, -3, 0, -3)), (-3, 0, 2))

    def test_a_list_is_a_word_and_stays(self):
        for name in KIND_NAMES:
            word = list(WORD)
            self.assertEqual(plain_value(name, word), PLAIN[name])
            self.assertEqual(kind_named(name).keep(word), KEPT[name])
            self.assertEqual(kind_named(name).plain(word), PLAIN[name])
            self.assertTrue(alike(name, word, WORD))
            self.assertEqual(word, list(WORD))

    def test_the_returned_list_is_new(self):
        for name in KIND_NAMES:
            one = kind_named(name)
            kept = one.keep(WORD)
            kept.append(9)
            self.assertEqual(one.keep(WORD), KEPT[name])

    def test_joined_words(self):
        words = list(words_up_to(3, (1, 2, 3)))
        for name in KIND_NAMES:
            for left in words:
                for right in words:
                    parts = plain_value(name, left) + plain_value(name, right)
                    self.assertEqual(plain_value(name, left + right), plain_value(name, parts))

    def test_a_plain_value_is_its_own(self):
        for name in KIND_NAMES:
            for word in words_up_to(4, (1, 2, 3)):
                plain = plain_value(name, word)
                self.assertEqual(plain_value(name, plain), plain)


class AlikeTest(unittest.TestCase):

    def test_alike(self):
        words = list(words_up_to(3, (1, 2)))
        for name in KIND_NAMES:
            for left in words:
                for right in words:
                    self.assertIs(alike(name, left, right), plain_value(name, left) == plain_value(name, right))

    def test_some_pairs(self):
        self.assertIs(alike("bag", (1, 2), (2, 1)), True)
        self.assertIs(alike("bag", (1, 2), (1, 2, 2)), False)
        self.assertIs(alike("heads", (1, 2, 1), (1, 2)), True)
        self.assertIs(alike("heads", (2, 1), (1, 2)), False)
        self.assertIs(alike("first", (1, 2), (1, 3)), True)
        self.assertIs(alike("first", (), (1,)), False)

    def test_doubled_word(self):
        for name in KIND_NAMES:
            for word in words_up_to(3, (1, 2, 3)):
                idempotent = name not in ("list", "bag")
                self.assertIs(alike(name, word + word, word), idempotent or word == ())

    def test_bad_kinds(self):
        for thing in NOT_KINDS:
            for call in (plain_value, lambda kind, word: alike(kind, word, word)):
                with self.assertRaises(BadKind) as caught:
                    call(thing, None)
                self.assertIs(caught.exception.name, thing)


class UnderTest(unittest.TestCase):

    def test_rule_words(self):
        self.assertEqual(rule_words("12=21"), ((1, 2), (2, 1)))
        self.assertEqual(rule_words("11=1"), ((1, 1), (1,)))
        self.assertEqual(rule_words("12=1"), ((1, 2), (1,)))
        self.assertEqual(rule_words("12=2"), ((1, 2), (2,)))
        self.assertEqual(rule_words("123=13"), ((1, 2, 3), (1, 3)))
        self.assertEqual(rule_words("121=12"), ((1, 2, 1), (1, 2)))
        self.assertEqual(rule_words("121=21"), ((1, 2, 1), (2, 1)))

    def test_each_kind_keeps_its_own_rules(self):
        for name in KIND_NAMES:
            for rule in RULES[name]:
                left, right = rule_words(rule)
                self.assertTrue(alike(name, left, right))

    def test_all_pairs(self):
        for kind, other in kind_pairs():
            with self.subTest(f"{kind} {other}"):
                self.assertIs(under(kind, other), other in UNDER[kind])

    def test_broken_rules(self):
        for kind, other in kind_pairs():
            broken = [rule for rule in RULES[other] if not alike(kind, *rule_words(rule))]
            self.assertEqual(broken_rule(kind, other), broken[0] if broken else None)
        self.assertEqual(broken_rule("bag", "set"), "11=1")
        self.assertEqual(broken_rule("list", "set"), "12=21")
        self.assertEqual(broken_rule("heads", "set"), "12=21")
        self.assertEqual(broken_rule("set", "ends"), "123=13")
        self.assertEqual(broken_rule("bag", "ends"), "11=1")
        self.assertIsNone(broken_rule("first", "ends"))

    def test_the_broken_rule_parts_the_kinds(self):
        for kind, other in kind_pairs():
            if not under(kind, other):
                left, right = rule_words(broken_rule(kind, other))
                self.assertTrue(alike(other, left, right))
                self.assertFalse(alike(kind, left, right))

    def test_a_word_and_its_plain_value_under_the_other_kind(self):
        for kind, other in kind_pairs():
            if under(kind, other):
                for word in words_up_to(4, (1, 2, 3)):
                    self.assertTrue(alike(kind, word, plain_value(other, word)))

    def test_sundered_words(self):
        wanted = {
            "bag": ((1, 2), (2, 1)), "set": ((1, 2), (2, 1)), "first": ((1, 1), (1, 2)), "last": ((1, 1), (2, 1)),
            "ends": ((1, 1, 1), (1, 2, 1)), "heads": ((1, 2, 1), (1, 2, 2)), "tails": ((1, 2, 1), (2, 2, 1)),
        }
        for kind, other in kind_pairs():
            with self.subTest(f"{kind} {other}"):
                if other in UNDER[kind]:
                    self.assertIsNone(sundered(kind, other))
                elif other == "set" and kind in ("list", "bag"):
                    self.assertEqual(sundered(kind, other), ((1, 1, 2), (1, 2, 2)))
                else:
                    self.assertEqual(sundered(kind, other), wanted[other])

    def test_sundered_words_are_parted(self):
        for kind, other in kind_pairs():
            if not under(kind, other):
                left, right = sundered(kind, other)
                self.assertEqual(len(left), len(right))
                self.assertTrue(alike(other, left, right))
                self.assertFalse(alike(kind, left, right))

    def test_the_first_of_two_kinds_is_checked_first(self):
        for call in (broken_rule, under, sundered):
            for thing in NOT_KINDS:
                for kind, other in ((thing, "bag"), ("bag", thing), (thing, "no kind"), (thing, "list")):
                    with self.assertRaises(BadKind) as caught:
                        call(kind, other)
                    self.assertIs(caught.exception.name, thing)

    def test_example(self):
        found = [kind_named("bag").keep((3, 1, 3, 2, 1)), rule_words(broken_rule("bag", "set"))]
        self.assertEqual(found, [[1, 4, 3, 0, 2], ((1, 1), (1,))])


if __name__ == "__main__":
    unittest.main()
