"""Loose nets: going on from records of different moments."""

from movedstates.cuts import net_like
from movedstates.errors import BadSheet
from movedstates.nets import watermark_of


def lacking(gate_record, records):
    """Tuples (key, letter) of the letters that no live holding in a record covers."""
    holdings = [(key, record.live[key]) for record in records for key in record.live]
    return uncovered(gate_record.gate, holdings)


def loose(net, gate_record, records, board):
    """The loose net with the settings of a net."""
    if net.sheet[0] == "count":
        raise BadSheet()
    made = net_like(net, gate_record.yards[0])
    made.go_on_from(gate_record, records, board, 0)
    for worker in range(len(made.workers)):
        send_news(made, worker)
    for key, letter in lacking(gate_record, records):
        made.post_letter(key, letter)
    return made


def uncovered(gate, holdings):
    """Tuples (key, letter) of the letters of the gate that no holding covers; holdings has tuples (key, holding)."""
    rows = []
    for key in gate.known():
        own = [holding for other, holding in holdings if other == key]
        rows.extend([(key, letter) for letter in gate.letters_of(key)
                     if not any([letter[0] in holding for holding in own])])
    return rows


def send_news(net, worker):
    """The gate sends the worker its newest yard and its last watermark, if it has given one."""
    net.post(worker, ("yard",))
    watermark = watermark_of(net.gate)
    if watermark is not None:
        net.post(worker, ("mark",) + watermark)
