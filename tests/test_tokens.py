"""Names and integers as text: points 1 and 3."""

import unittest

from movedstates.errors import BadToken
from movedstates.tokens import is_name, read_number


class ReadNumberTest(unittest.TestCase):

    def test_integers_of_either_sign(self):
        for number in (0, 1, -1, 9, 10, 100, -100, 2026, -90071992547409931):
            self.assertEqual(read_number(str(number)), number)

    def test_many_digits(self):
        for number in (10 ** 23, 10 ** 24 - 1, -(10 ** 24 - 1), 123456789 ** 9):
            self.assertEqual(read_number(str(number)), number)

    def test_the_answer_is_an_int(self):
        self.assertIs(type(read_number("1")), int)

    def test_other_strings(self):
        wrong = ["", " ", "-", "--1", "+1", "-0", "00", "01", "-01", "1 ", " 1", "1 2", "- 1", "1.0", "1e3", "1_000",
                 "a", "0x1", "one", "1-", "1\n", "\n", "+", "+0", "-00", "1:2"]
        for text in wrong:
            with self.subTest(text):
                with self.assertRaises(BadToken) as caught:
                    read_number(text)
                self.assertEqual(caught.exception.text, text)


class IsNameTest(unittest.TestCase):

    def test_names(self):
        for text in ("a", "z", "az", "event", "finish", "abcdefgh", "zzzzzzzz"):
            self.assertIs(is_name(text), True)

    def test_strings_that_are_no_names(self):
        for text in ("", "abcdefghi", "A", "aB", "a1", "1", "a b", " a", "a ", "a_", "a-", "`", "{", "a\n", "\n"):
            with self.subTest(text):
                self.assertIs(is_name(text), False)

    def test_things_that_are_no_strings(self):
        for thing in (None, 0, 1, True, False, (), ("a",), [], ["a"], {}, {"a": 1}, b"a", object(), is_name, 1.5):
            with self.subTest(str(thing)):
                self.assertIs(is_name(thing), False)


if __name__ == "__main__":
    unittest.main()
