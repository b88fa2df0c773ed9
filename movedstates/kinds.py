"""The eight kinds of merge functions, plain values, and which kind is under which."""

from movedstates.errors import BadKind

KIND_NAMES = ("list", "bag", "set", "first", "last", "ends", "heads", "tails")

# By the other kind; that of set for the kinds that are not idempotent stands apart.
SUNDERED = {
    "bag": ((1, 2), (2, 1)),
    "set": ((1, 2), (2, 1)),
    "first": ((1, 1), (1, 2)),
    "last": ((1, 1), (2, 1)),
    "ends": ((1, 1, 1), (1, 2, 1)),
    "heads": ((1, 2, 1), (1, 2, 2)),
    "tails": ((1, 2, 1), (2, 2, 1)),
}
SUNDERED_COUNTS = ((1, 1, 2), (1, 2, 2))


class Kind:
    """The kind list, and the base of all others."""

    NAME = "list"
    RULES = ()
    IDEMPOTENT = False
    ORDERLESS = False
    PLACED = True
    OUTER = False

    def keep(self, word):
        """All indexes."""
        return list(range(len(word)))

    def plain(self, word):
        """The plain value of the word."""
        return tuple([word[at] for at in self.keep(word)])


class BagKind(Kind):
    """The kind bag: the order does not matter."""

    NAME = "bag"
    RULES = ("12=21",)
    IDEMPOTENT = False
    ORDERLESS = True
    PLACED = False
    OUTER = False

    def keep(self, word):
        """All indexes, ordered by their values."""
        return sorted(range(len(word)), key=lambda at: word[at])


class SetKind(BagKind):
    """The kind set: neither order nor repeats matter."""

    NAME = "set"
    RULES = ("12=21", "11=1")
    IDEMPOTENT = True
    ORDERLESS = True
    PLACED = False
    OUTER = False

    def keep(self, word):
        """The least index of each value, ordered by the values."""
        places = least_places(word)
        return [places[value] for value in sorted(places)]


class HeadsKind(Kind):
    """The kind heads: only where a value comes first matters."""

    NAME = "heads"
    RULES = ("11=1", "121=12")
    IDEMPOTENT = True
    ORDERLESS = False
    PLACED = True
    OUTER = False

    def keep(self, word):
        """The least index of each value, ascending."""
        places = least_places(word)
        return sorted(places.values())


class FirstKind(HeadsKind):
    """The kind first: only the first value matters."""

    NAME = "first"
    RULES = ("12=1",)
    IDEMPOTENT = True
    ORDERLESS = False
    PLACED = False
    OUTER = True

    def keep(self, word):
        """The first index."""
        return [0] if len(word) > 0 else []


class TailsKind(Kind):
    """The kind tails: only where a value comes last matters."""

    NAME = "tails"
    RULES = ("11=1", "121=21")
    IDEMPOTENT = True
    ORDERLESS = False
    PLACED = True
    OUTER = False

    def keep(self, word):
        """The greatest index of each value, ascending."""
        places = greatest_places(word)
        return sorted(places.values())


class LastKind(TailsKind):
    """The kind last: only the last value matters."""

    NAME = "last"
    RULES = ("12=2",)
    IDEMPOTENT = True
    ORDERLESS = False
    PLACED = False
    OUTER = True

    def keep(self, word):
        """The last index."""
        return [len(word) - 1] if len(word) > 0 else []


class EndsKind(Kind):
    """The kind ends: only the first value and the last one matter."""

    NAME = "ends"
    RULES = ("11=1", "123=13")
    IDEMPOTENT = True
    ORDERLESS = False
    PLACED = False
    OUTER = True

    def keep(self, word):
        """The first index and the last one, even if they are the same."""
        return [0, len(word) - 1] if len(word) > 0 else []


def least_places(word):
    """A dict from each value of the word to the least index at which it stands."""
    places = {}
    for at, value in enumerate(word):
        places.setdefault(value, at)
    return places


def greatest_places(word):
    """A dict from each value of the word to the greatest index at which it stands."""
    return {value: at for at, value in enumerate(word)}


def kind_named(name):
    """A new object of the class of this kind."""
    # What only claims to be equal to a name is no name.
    if not isinstance(name, str) or name not in KIND_NAMES:
        raise BadKind(name)
    if name == "list":
        return Kind()
    if name == "bag":
        return BagKind()
    if name == "set":
        return SetKind()
    if name == "first":
        return FirstKind()
    if name == "last":
        return LastKind()
    if name == "ends":
        return EndsKind()
    if name == "heads":
        return HeadsKind()
    return TailsKind()


def plain_value(kind, word):
    """The plain value of the word under the kind."""
    named = kind_named(kind)
    return named.plain(word)


def alike(kind, left, right):
    """Whether the two words are alike under the kind."""
    named = kind_named(kind)
    return named.plain(left) == named.plain(right)


def rule_words(rule):
    """The two sides of a rule, each a word."""
    left, _, right = rule.partition("=")
    return tuple([int(digit) for digit in left]), tuple([int(digit) for digit in right])


def broken_rule(kind, other):
    """The first rule of the other kind that the kind does not keep, or None."""
    named = kind_named(kind)
    wanted = kind_named(other)
    for rule in wanted.RULES:
        left, right = rule_words(rule)
        if named.plain(left) != named.plain(right):
            return rule
    return None


def under(kind, other):
    """Whether the kind is under the other one."""
    return broken_rule(kind, other) is None


def sundered(kind, other):
    """Two words that are alike under the other kind and not under the kind, or None."""
    if under(kind, other):
        return None
    if other == "set" and kind in ("list", "bag"):
        return SUNDERED_COUNTS
    return SUNDERED[other]
