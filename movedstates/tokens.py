"""Names and integers, as they stand in texts."""

from movedstates.errors import BadToken

DIGITS = "0123456789"
LETTERS = "abcdefghijklmnopqrstuvwxyz"
LONGEST_NAME = 8


def read_number(text):
    """The integer that the string writes; BadToken if it writes none."""
    digits = text[1:] if text.startswith("-") else text
    if digits == "" or not consists_of(digits, DIGITS):
        raise BadToken(text)
    # A leading zero and -0 are forms that str never writes.
    if digits.startswith("0") and text != "0":
        raise BadToken(text)
    return int(text)


def is_name(text):
    """Whether this, whatever it is, is a name."""
    return isinstance(text, str) and 1 <= len(text) <= LONGEST_NAME and consists_of(text, LETTERS)


def lines_of(text):
    """The lines of the text; the empty string has none."""
    return text.split("\n") if text != "" else []


def consists_of(text, signs):
    """Whether every character of the text is one of the signs."""
    return all([sign in signs for sign in text])
