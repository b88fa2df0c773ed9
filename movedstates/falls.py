"""Falls: a worker loses what it has, and the gate sends what is lacking."""

from movedstates.errors import BadSheet, CutOpen
from movedstates.loose import send_news, uncovered
from movedstates.records import first_record, restore_worker


def fall(net, worker, record=None):
    """Lets the worker of a cut net fall; tuples (key, letter) of the letters that are sent."""
    if net.sheet[0] == "count":
        raise BadSheet()
    if net.cut_open:
        raise CutOpen()
    net.underway = [message for message in net.underway if message.to != worker]
    restore_worker(net.workers[worker], first_record(net) if record is None else record)
    send_news(net, worker)
    letters = lost_letters(net)
    for key, letter in letters:
        net.post_letter(key, letter)
    return letters


def lost_letters(net):
    """Tuples (key, letter) of the letters that are neither under way nor covered by what is live or under way."""
    bodies = [message.body for message in net.underway]
    live = [(key, worker.live[key]) for worker in net.workers for key in worker.live]
    holdings = live + [(body[1], body[2]) for body in bodies if body[0] == "holding"]
    on_the_way = [(body[1], body[2]) for body in bodies if body[0] == "letter"]
    return [(key, letter) for key, letter in uncovered(net.gate, holdings) if (key, letter[0]) not in on_the_way]
