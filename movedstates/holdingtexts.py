"""The parts of the text of a holding."""

from movedstates.errors import BadToken
from movedstates.kinds import KIND_NAMES
from movedstates.rows import is_hole
from movedstates.tokens import read_number


def head_line(kind, gap, base):
    """The first line."""
    return f"{kind} gap {gap} base {base}"


def block_line(block):
    """The line of a block."""
    low, high, first, last, row = block
    return " ".join([f"{low} {high} {first} {last} row"] + [entry_token(entry) for entry in row])


def entry_token(entry):
    """The token of an entry."""
    return f"{entry[0]}:{entry[1]}" if is_hole(entry) else str(entry)


def holding_in(text):
    """Kind, gap, base and blocks of a text; BadToken if its lines are not of the form."""
    head, *lines = text.split("\n")
    kind, gap, base = head_in(head)
    return kind, gap, base, tuple([block_in(line) for line in lines])


def head_in(line):
    """Kind, gap and base."""
    tokens = line.split(" ")
    if len(tokens) != 5 or tokens[0] not in KIND_NAMES or tokens[1] != "gap" or tokens[3] != "base":
        raise BadToken(line)
    gap = read_number(tokens[2])
    if gap < 0:
        raise BadToken(line)
    return tokens[0], gap, read_number(tokens[4])


def block_in(line):
    """The block of a line."""
    tokens = line.split(" ")
    if len(tokens) < 5 or tokens[4] != "row":
        raise BadToken(line)
    low, high, first, last = [read_number(token) for token in tokens[:4]]
    return low, high, first, last, tuple([entry_in(token) for token in tokens[5:]])


def entry_in(token):
    """The entry of a token."""
    start, colon, end = token.partition(":")
    if colon == "":
        return read_number(start)
    return read_number(start), read_number(end)
