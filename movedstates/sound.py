"""Which settings are sound, and why the others are not."""

from movedstates.kinds import KIND_NAMES, kind_named
from movedstates.sheets import SHEETS, refuse_yards
from movedstates.verdicts import moving, returning


def why_not(setting):
    """The reason why the setting is not sound, or None."""
    moves, returns = moves_and_returns(setting.crew, setting.scheme, setting.yards)
    return reason(setting.kind, setting.sheet, setting.again, moves, returns)


def sound(setting):
    """Whether the setting is sound."""
    return why_not(setting) is None


def sound_settings(crew, scheme, yards):
    """Tuples (kind, sheet, again) of all sound settings, in order."""
    refuse_yards(crew, yards)
    moves, returns = moves_and_returns(crew, scheme, yards)
    rows = [(kind, sheet, again) for kind in KIND_NAMES for sheet in SHEETS for again in (False, True)]
    return [row for row in rows if reason(row[0], row[1], row[2], moves, returns) is None]


def moves_and_returns(crew, scheme, yards):
    """Whether at least one ranking moves, and whether at least one returns."""
    return not moving(crew, scheme, yards).holds, not returning(crew, scheme, yards).holds


def reason(kind, sheet, again, moves, returns):
    """The first reason that applies, or None."""
    joins, letters, keeps = sheet
    counts = joins == "count"
    if letters == "drop" and moves:
        return "dropped"
    if counts and not kind_named(kind).ORDERLESS:
        return "order"
    if again and (counts or (kind == "bag" and moves)):
        return "twice"
    if keeps and returns and (counts or kind == "bag"):
        return "copies"
    return None
