"""The text of a tape."""

from movedstates.errors import BadLine, BadToken
from movedstates.tokens import is_name, lines_of, read_number

MOST_WORKERS = 6


def write_tape(deeds):
    """The text of the deeds, a line for each."""
    return "\n".join([deed_line(deed) for deed in deeds])


def read_tape(text):
    """The deeds of the text; BadLine with the number of the first line that is not valid."""
    deeds = []
    for at, line in enumerate(lines_of(text)):
        if len(deeds) > 0 and deeds[-1] == ("finish",):
            raise BadLine(at + 1)
        try:
            deeds.append(deed_in(line))
        except BadToken:
            raise BadLine(at + 1) from None
    return deeds


def deed_line(deed):
    """The line of a deed."""
    parts = deed[1] if deed[0] == "yard" else deed[1:]
    return " ".join([deed[0]] + [str(part) for part in parts])


def deed_in(line):
    """The deed of a line; BadToken if there is none."""
    word, *tokens = line.split(" ")
    if word == "event" and len(tokens) == 3 and is_name(tokens[0]):
        return "event", tokens[0], read_number(tokens[1]), read_number(tokens[2])
    if word == "raise" and len(tokens) == 1:
        return "raise", read_number(tokens[0])
    if word == "yard":
        return "yard", workers_in(tokens)
    if line == "finish":
        return ("finish",)
    raise BadToken(line)


def workers_in(tokens):
    """The workers that the tokens write; BadToken if they are no yard."""
    workers = tuple([read_number(token) for token in tokens])
    ascending = all([one < other for one, other in zip(workers, workers[1:])])
    if len(workers) == 0 or not ascending or workers[0] < 0 or workers[-1] >= MOST_WORKERS:
        raise BadToken(" ".join(tokens))
    return workers
