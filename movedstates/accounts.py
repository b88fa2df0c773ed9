"""Accounts: what a net has of a key, wherever it is."""

from movedstates.blocks import covers
from movedstates.errors import UnknownName
from movedstates.heaps import Heap
from movedstates.holdings import Holding
from movedstates.ripening import tell
from movedstates.unions import unite


def account(net, key):
    """All live holdings of the key and all letters and holdings of it under way, joined."""
    if key not in net.routing.rankings:
        raise UnknownName(key)
    if net.sheet[0] == "count":
        return account_of_heaps(net, key)
    total = Holding.empty(net.kind, gap=net.gap)
    for _, holding in live_holdings(net, key):
        total = unite(total, holding)
    for _, body in bodies_of(net, key):
        total = total.put(body[2], body[3], body[4]) if body[0] == "letter" else unite(total, body[2])
    return total


def account_of_heaps(net, key):
    """The account of a key in a net with heaps."""
    total = Heap.empty(net.kind, gap=net.gap)
    for _, heap in live_holdings(net, key):
        total = total + heap
    for _, body in bodies_of(net, key):
        total = total.put(body[2], body[3], body[4]) if body[0] == "letter" else total + body[2]
    return total


def front(net, key):
    """How many letters of the key are told of by the board."""
    reports = net.board.reports_of(key)
    if len(reports) == 0:
        return 0
    last = reports[-1][2]
    return len([letter for letter in net.gate.letters_of(key) if letter[1] <= last])


def owed(net, key):
    """The reports that the account of the key tells at the newest mark of the gate."""
    total = account(net, key)
    mark = net.gate.mark_of(key)
    if net.sheet[0] == "count":
        blocks, _ = total.tell(mark)
    else:
        sessions, _ = tell(total, mark)
        blocks = [session[2:] for session in sessions]
    return [(key, first, last, value) for first, last, value in blocks]


def carriers(net, key):
    """For each number from the front on, which live holdings and which messages under way know it."""
    live = live_holdings(net, key)
    bodies = bodies_of(net, key)
    rows = []
    for number in range(front(net, key), net.gate.count_of(key)):
        holders = [("live", worker) for worker, holding in live if knows(holding, number)]
        rows.append((number, holders + [("message", at) for at, body in bodies if carries(body, number)]))
    return rows


def live_holdings(net, key):
    """Tuples of a worker and its live holding of the key, the workers ascending."""
    return [(at, worker.live[key]) for at, worker in enumerate(net.workers) if key in worker.live]


def bodies_of(net, key):
    """Tuples of an index and the body of the message there, for all letters and holdings of the key under way."""
    bodies = [(at, message.body) for at, message in enumerate(net.underway)]
    return [(at, body) for at, body in bodies if body[0] in ("letter", "holding") and body[1] == key]


def knows(holding, number):
    """Whether it is a known number of the holding."""
    return any([covers(block, number) for block in holding.blocks])


def carries(body, number):
    """Whether a letter has the number, or a holding knows it."""
    return body[2] == number if body[0] == "letter" else knows(body[2], number)
