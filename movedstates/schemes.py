"""Schemes: the rules by which a worker is taken."""

from movedstates.errors import BadLine, BadScheme, BadToken
from movedstates.tokens import is_name, lines_of

SIGNS = ("<", ">=")
DIGITS = ("1", "2", "3", "4")


class Scheme:
    """At most four rules, each with at most three bounds."""

    MOST = 4
    MOST_BOUNDS = 3

    def __init__(self, rules):
        if len(rules) > self.MOST or any([len(bounds) > self.MOST_BOUNDS for _, bounds in rules]):
            raise BadScheme()
        self.rules = list(rules)

    @classmethod
    def read(cls, text):
        """The scheme of the text."""
        rules = []
        for at, line in enumerate(lines_of(text)):
            try:
                rules.append(rule_in(line))
            except BadToken:
                raise BadLine(at + 1) from None
            if len(rules) > cls.MOST or len(rules[at][1]) > cls.MOST_BOUNDS:
                raise BadLine(at + 1)
        return cls(rules)

    def write(self):
        """The text of the scheme."""
        return "\n".join([rule_line(rule) for rule in self.rules])

    def takes(self, make, seen):
        """Whether a worker with this make is taken behind workers with the makes in seen."""
        return any([rule_takes(rule, make, seen) for rule in self.rules])

    def __len__(self):
        return len(self.rules)

    def __eq__(self, other):
        return isinstance(other, Scheme) and self.rules == other.rules

    def __add__(self, other):
        return Scheme(self.rules + other.rules)


def rule_takes(rule, make, seen):
    """Whether the rule takes a worker."""
    group, bounds = rule
    return belongs(make, group) and all([bound_holds(bound, seen) for bound in bounds])


def belongs(make, group):
    """Whether the make belongs to the group."""
    return group == ("any",) or group == ("make", make)


def bound_holds(bound, seen):
    """Whether the bound holds behind workers with these makes."""
    group, sign, number = bound
    many = len([make for make in seen if belongs(make, group)])
    return many < number if sign == "<" else many >= number


def rule_line(rule):
    """The line of a rule."""
    group, bounds = rule
    line = "take " + " ".join(group)
    if len(bounds) == 0:
        return line
    return line + " if " + " and ".join([bound_text(bound) for bound in bounds])


def bound_text(bound):
    """The text of a bound."""
    group, sign, number = bound
    return " ".join(["seen"] + list(group) + [sign, str(number)])


def rule_in(line):
    """The rule of a line, with any number of bounds; BadToken if there is none."""
    tokens = line.split(" ")
    rest = behind_word(tokens, "take")
    group, rest = group_in(rest)
    bounds = []
    while len(rest) > 0:
        rest = behind_word(rest, "if" if len(bounds) == 0 else "and")
        bound, rest = bound_in(rest)
        bounds.append(bound)
    return group, tuple(bounds)


def behind_word(tokens, word):
    """The tokens behind the first one, which must be the word."""
    if tokens[:1] != [word]:
        raise BadToken(" ".join(tokens))
    return tokens[1:]


def group_in(tokens):
    """The group that stands first, and the tokens behind it."""
    if tokens[:1] == ["any"]:
        return ("any",), tokens[1:]
    rest = behind_word(tokens, "make")
    if len(rest) == 0 or not is_name(rest[0]):
        raise BadToken(" ".join(tokens))
    return ("make", rest[0]), rest[1:]


def bound_in(tokens):
    """The bound that stands first, and the tokens behind it."""
    group, rest = group_in(behind_word(tokens, "seen"))
    if len(rest) < 2 or rest[0] not in SIGNS or rest[1] not in DIGITS:
        raise BadToken(" ".join(tokens))
    return (group, rest[0], int(rest[1])), rest[2:]
