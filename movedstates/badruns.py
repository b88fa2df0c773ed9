"""Bad runs: for each setting that is not sound a run that goes wrong, whatever the gap is."""

from movedstates.holders import holders
from movedstates.runs import Run
from movedstates.sound import why_not
from movedstates.verdicts import moving, returning

KEY = "a"
# Of letters 0 to 2 with these values, the bags of the first two and of the last two do not tell the bag of all.
VALUES = (7, 5, 7)


def bad_run(setting):
    """None if the setting is sound, otherwise rankings, a tape and a weaving of a run that does not agree."""
    why = why_not(setting)
    if why is None:
        return None
    counts = setting.sheet[0] == "count"
    if why == "dropped":
        return dropped_letter(setting)
    if why == "order":
        return swapped_letters(setting)
    if why == "twice":
        return repeated_letter(setting) if counts else overlap_by_repeat(setting)
    return copied_heap(setting) if counts else overlap_by_copy(setting)


def dropped_letter(setting):
    """A letter comes to its old holder, which knows by then that another one holds the key."""
    ranking = moving(setting.crew, setting.scheme, setting.yards).ranking
    before, old = first_move(setting, ranking)
    run = begun(setting, ranking, before, 1)
    read_next(run)
    arrive(run, place_of(run.net, old, ("yard",)))
    arrive(run, place_of(run.net, old, ("letter", KEY, 0)))
    return parts_of_run(run, ranking)


def swapped_letters(setting):
    """Two letters come to a heap in the wrong order, behind all moves."""
    ranking = list(range(len(setting.crew)))
    run = begun(setting, ranking, len(setting.yards) - 1, 2)
    arrive(run, 1)
    return parts_of_run(run, ranking)


def repeated_letter(setting):
    """A letter comes to a heap twice, behind all moves."""
    ranking = list(range(len(setting.crew)))
    run = begun(setting, ranking, len(setting.yards) - 1, 1)
    stay(run, 0)
    return parts_of_run(run, ranking)


def overlap_by_repeat(setting):
    """The old holder sends the letters 0 and 1, and sends on 1 once more, and 2, which come ahead of these."""
    ranking = moving(setting.crew, setting.scheme, setting.yards).ranking
    before, old = first_move(setting, ranking)
    run = begun(setting, ranking, before, 3)
    arrive(run, 0)
    stay(run, place_of(run.net, old, ("letter", KEY, 1)))
    read_next(run)
    arrive(run, place_of(run.net, old, ("yard",)))
    for number in (1, 2):
        arrive(run, place_of(run.net, old, ("letter", KEY, number)))
    # Both letters were sent behind the holding.
    for _ in range(3):
        arrive(run, len(run.net) - 1)
    return parts_of_run(run, ranking)


def copied_heap(setting):
    """A heap comes back to a worker that has kept it."""
    ranking = returning(setting.crew, setting.scheme, setting.yards).ranking
    run = begun(setting, ranking, 0, 1)
    settle_but(run, None)
    for _ in setting.yard_deeds():
        read_next(run)
        settle_but(run, None)
    return parts_of_run(run, ranking)


def overlap_by_copy(setting):
    """A worker keeps the letter 1, and when it holds the key again, 0 comes to it ahead of the holding of 1 and 2."""
    ranking = returning(setting.crew, setting.scheme, setting.yards).ranking
    before, back, worker = first_return(setting, ranking)
    run = begun(setting, ranking, before, 3)
    arrive(run, 1)
    read_next(run)
    # So the letter 2 is sent on.
    arrive(run, place_of(run.net, worker, ("yard",)))
    for _ in range(before + 1, back):
        settle_but(run, 0)
        read_next(run)
    arrive(run, place_of(run.net, worker, ("yard",)))
    arrive(run, place_of(run.net, worker, ("letter", KEY, 0)))
    settle_but(run, None)
    return parts_of_run(run, ranking)


def first_move(setting, ranking):
    """The index of the yard from which the ranking moves first, and its holder there."""
    held = holders(setting.crew, setting.scheme, ranking, setting.yards)
    before = [at for at in range(len(held) - 1) if held[at] != held[at + 1]][0]
    return before, held[before]


def first_return(setting, ranking):
    """The indexes of the first two yards that one worker holds in, but in none between, and this worker."""
    held = holders(setting.crew, setting.scheme, ranking, setting.yards)
    pairs = [(before, back) for back in range(len(held)) for before in range(back - 1)
             if held[before] == held[back] and held[back] not in held[before + 1:back]]
    before, back = pairs[0]
    return before, back, held[before]


def begun(setting, ranking, many, events):
    """A run that has read so many yards, has settled, and has then read all events, which stand there in the tape."""
    yards = setting.yard_deeds()
    deeds = [("event", KEY, 0, value) for value in VALUES[:events]]
    run = Run(setting.net_for({KEY: ranking}, gap=0), yards[:many] + deeds + yards[many:])
    for _ in range(many):
        read_next(run)
    settle_but(run, None)
    for _ in range(events):
        read_next(run)
    return run


def read_next(run):
    """The gate takes the next deed."""
    run.step(0)


def arrive(run, place):
    """The message at this index arrives."""
    run.step(deeds_left(run) + place)


def stay(run, place):
    """The message at this index arrives and stays."""
    run.step(deeds_left(run) + len(run.net) + place)


def deeds_left(run):
    """How many steps stand ahead of the arrivals."""
    return 1 if run.at < len(run.deeds) else 0


def place_of(net, worker, start):
    """The index of the oldest message to the worker whose body begins so."""
    return [at for at, message in enumerate(net.underway)
            if message.to == worker and message.body[:len(start)] == start][0]


def settle_but(run, number):
    """All messages arrive, always the oldest, but for the letter with this number."""
    place = 0
    while place < len(run.net):
        body = run.net.underway[place].body
        if body[0] == "letter" and body[2] == number:
            place = place + 1
        else:
            arrive(run, place)


def parts_of_run(run, ranking):
    """The rankings, the tape and the weaving of the run."""
    return {KEY: ranking}, run.deeds, run.weaving
