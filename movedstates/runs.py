"""Runs: a net and a tape along a list of choices."""


class Run:
    """A run of a twin of the net."""

    def __init__(self, net, deeds):
        self.net = net.twin()
        self.deeds = list(deeds)
        self.at = 0
        self.weaving = []

    @property
    def done(self):
        """Whether no step is possible."""
        return self.at >= len(self.deeds) and len(self.net.underway) == 0

    def steps(self):
        """The steps that are possible now, in order."""
        if self.at < len(self.deeds):
            yield ("read",)
        for place in range(len(self.net)):
            yield ("arrive", place)
        if self.net.again:
            for place in range(len(self.net)):
                yield ("stay", place)

    def step(self, choice):
        """Does the step that the choice takes, and returns it; None if none is possible."""
        possible = list(self.steps())
        if len(possible) == 0:
            return None
        index = choice % len(possible)
        chosen = possible[index]
        if chosen[0] == "read":
            self.net.take(self.deeds[self.at])
            self.at = self.at + 1
        else:
            self.net.arrive(chosen[1], stays=chosen[0] == "stay")
        self.weaving.append(index)
        return chosen

    def follow(self, weaving):
        """Does the step of each choice in turn."""
        # It may be the weaving of this very run, which grows with each step.
        for choice in list(weaving):
            self.step(choice)

    def end(self):
        """Reads the rest of the tape, and the finish, and lets all messages arrive."""
        while self.at < len(self.deeds):
            self.step(0)
        if not self.net.gate.finished:
            self.deeds.append(("finish",))
        # Now the first step is the finish, if it was not read before, and then always the oldest message.
        while not self.done:
            self.step(0)


def run(net, deeds, weaving=()):
    """The run that has followed the weaving, behind its end."""
    made = Run(net, deeds)
    made.follow(weaving)
    made.end()
    return made
