"""Trials of a desk, behind which it is as before."""


class Trial:
    """A trial of a desk, for one with statement."""

    def __init__(self, desk):
        self.desk = desk

    def __enter__(self):
        desk = self.desk
        self.net = desk.net
        self.mirror = desk.mirror
        self.cuts = desk.cuts
        self.mirrors = desk.mirrors
        desk.net = self.net.twin()
        desk.mirror = self.mirror.twin()
        desk.cuts = list(self.cuts)
        desk.mirrors = list(self.mirrors)
        return desk

    def __exit__(self, kind, value, trace):
        self.desk.net = self.net
        self.desk.mirror = self.mirror
        self.desk.cuts = self.cuts
        self.desk.mirrors = self.mirrors


def tried(desk, deeds):
    """Does the deeds in a trial of the desk; what they return."""
    returned = []
    with desk.trial() as held:
        for deed in deeds:
            returned.append(held.take(deed))
    return returned
