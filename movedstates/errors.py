"""The errors of the package."""


class MovedError(ValueError):
    """The base of all errors of the package."""


class BadKind(MovedError):
    """Something else stands where the name of a kind is needed."""

    def __init__(self, name):
        super().__init__(f"not the name of a kind: {name!r}")
        self.name = name


class BadGap(MovedError):
    """A gap is below 0."""

    def __init__(self, gap):
        super().__init__(f"a gap below 0: {gap!r}")
        self.gap = gap


class BadToken(MovedError):
    """A string does not write an integer."""

    def __init__(self, text):
        super().__init__(f"not a valid token: {text!r}")
        self.text = text


class BadName(MovedError):
    """Something else stands where a name is needed."""

    def __init__(self, name):
        super().__init__(f"not a name: {name!r}")
        self.name = name


class BadTable(MovedError):
    """The row with this index does not fit into a table."""

    def __init__(self, row):
        super().__init__(f"a table has a bad row at index {row!r}")
        self.row = row


class EmptyWord(MovedError):
    """A word is empty where it must not be."""


class BadLine(MovedError):
    """The line with this number is the first one that is not valid."""

    def __init__(self, number):
        super().__init__(f"line {number!r} is not valid")
        self.number = number


class Finished(MovedError):
    """A deed comes behind the finish."""


class NotFitting(MovedError):
    """Letters or sessions do not fit together."""


class OutOfOrder(MovedError):
    """The time of a letter is outside of the room of its number."""

    def __init__(self, letter):
        super().__init__(f"a letter out of order: {letter!r}")
        self.letter = letter


class BadText(MovedError):
    """A text is not the text of a holding."""

    def __init__(self, text):
        super().__init__(f"not the text of a holding: {text!r}")
        self.text = text


class NoLetters(MovedError):
    """No letters have these blocks."""


class NotUnder(MovedError):
    """A kind is not under another one."""

    def __init__(self, kind, other):
        super().__init__(f"{kind!r} is not under {other!r}")
        self.kind = kind
        self.other = other


class OtherHolding(MovedError):
    """Two holdings or heaps differ in kind or gap."""


class Unclear(MovedError):
    """A union is not determined."""


class UnknownName(MovedError):
    """Nothing has this name."""

    def __init__(self, name):
        super().__init__(f"an unknown name: {name!r}")
        self.name = name


class DuplicateName(MovedError):
    """Two workers have one name."""

    def __init__(self, name):
        super().__init__(f"a name that is taken: {name!r}")
        self.name = name


class BadCrew(MovedError):
    """A crew has no workers or too many."""


class BadScheme(MovedError):
    """A scheme has too many rules, or a rule too many bounds."""


class BadYard(MovedError):
    """A yard is none of the crew."""


class BadRanking(MovedError):
    """A ranking is none of the crew."""


class BadSheet(MovedError):
    """A sheet is none of the eight, or not the one that is needed."""


class NoMessage(MovedError):
    """No such message is at this place."""

    def __init__(self, place):
        super().__init__(f"no such message at index {place!r}")
        self.place = place


class NotAgain(MovedError):
    """A message may not arrive again."""


class CutOpen(MovedError):
    """A cut is open."""


class NoWay(MovedError):
    """No list of yards is allowed."""


class NoCut(MovedError):
    """No cut has this number."""

    def __init__(self, number):
        super().__init__(f"no cut has the number {number!r}")
        self.number = number
