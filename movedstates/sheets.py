"""Settings: everything about a net but its gap, its rankings, its tape and its weaving."""

from movedstates.errors import BadSheet, BadYard
from movedstates.holders import refuse_yard
from movedstates.kinds import kind_named
from movedstates.nets import Net
from movedstates.placers import is_sheet

SHEETS = (
    ("place", "forward", False), ("place", "forward", True), ("place", "drop", False), ("place", "drop", True),
    ("count", "forward", False), ("count", "forward", True), ("count", "drop", False), ("count", "drop", True),
)
MOST_YARDS = 6


class Setting:
    """A kind, a crew, a scheme, a list of yards, a sheet and the flag again."""

    def __init__(self, kind, crew, scheme, yards, *, sheet=("place", "forward", False), again=False):
        kind_named(kind)
        if not is_sheet(sheet):
            raise BadSheet()
        refuse_yards(crew, yards)
        self.kind = kind
        self.crew = crew
        self.scheme = scheme
        self.yards = tuple([tuple(yard) for yard in yards])
        self.sheet = sheet
        self.again = again

    def net_for(self, rankings, *, gap):
        """A net of the setting whose gate has taken nothing."""
        return Net(self.kind, gap=gap, crew=self.crew, scheme=self.scheme, rankings=rankings, yard=self.yards[0],
                   sheet=self.sheet, again=self.again)

    def yard_deeds(self):
        """The yard deeds of a tape that fits."""
        return [("yard", yard) for yard in self.yards[1:]]

    def fits_tape(self, deeds):
        """Whether the yard deeds of the tape are those of the setting."""
        return [deed for deed in deeds if deed[0] == "yard"] == self.yard_deeds()

    def __eq__(self, other):
        return (isinstance(other, Setting) and self.kind == other.kind and self.crew == other.crew
                and self.scheme == other.scheme and self.yards == other.yards and self.sheet == other.sheet
                and self.again == other.again)


def refuse_yards(crew, yards):
    """Raises BadYard if there are none or too many, or one of them is none of the crew."""
    if not 1 <= len(yards) <= MOST_YARDS:
        raise BadYard()
    for yard in yards:
        refuse_yard(crew, yard)
