"""Records of a gate and of workers, which stay as they are while the net goes on."""


class Record:
    """The record of a worker."""

    def __init__(self, number, yard, watermark, live, kept, told):
        self.number = number
        self.yard = yard
        self.watermark = watermark
        self.live = live
        self.kept = kept
        self.told = told


class GateRecord:
    """The record of a gate."""

    def __init__(self, gate, yards, taken):
        self.gate = gate
        self.yards = yards
        self.taken = taken


def record_worker(net, worker):
    """The record of the worker of a cut net now."""
    now = net.workers[worker]
    return Record(now.number, now.yard, now.watermark, dict(now.live), dict(now.kept), list(net.told_by[worker]))


def record_gate(net):
    """The record of the gate of a cut net now."""
    return GateRecord(net.gate.twin(), list(net.yards), net.taken)


def first_record(net):
    """The record of a worker that is as at first."""
    return Record(0, net.yards[0], None, {}, {}, [])


def restore_worker(worker, record):
    """Gives a worker what the record has of one; what that one told is not the worker's own."""
    worker.number = record.number
    worker.yard = record.yard
    worker.watermark = record.watermark
    worker.live = dict(record.live)
    worker.kept = dict(record.kept)
