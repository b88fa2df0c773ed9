"""Settings at random, and tapes that fit them."""

from movedstates.crews import Crew
from movedstates.schemes import Scheme
from movedstates.sheets import Setting
from movedstates.verdicts import moving, returning
from tests.nets import ALL, random_crew, random_tape
from tests.owners import random_scheme, random_yard

# For "take any" over two workers of one make, by what the rankings do.
YARDS = {"still": [(0, 1), (0, 1)], "one yard": [(0, 1)], "moves": [(0,), (0, 1)], "moves on": [(0,), (1,), (1,)],
         "returns": [(0,), (0, 1), (0,)], "returns late": [(0, 1), (0,), (1,), (1,), (0, 1), (0,)]}
DOES = {"still": (False, False), "one yard": (False, False), "moves": (True, False), "moves on": (True, False),
        "returns": (True, True), "returns late": (True, True)}
CREW = Crew([("x", "m"), ("y", "m")])
SCHEME = Scheme.read("take any")


def random_place(random, most=4):
    """A crew, a scheme and a list of yards; in all three cases of point 78 often enough."""
    while True:
        crew = random_crew(random, 1, most)
        scheme = random.choice((Scheme([]), SCHEME, random_scheme(random), random_scheme(random)))
        yards = [random_yard(random, crew) for _ in range(random.randint(1, 6))]
        if random.random() < 0.3:
            yards = [yards[0] for _ in yards]
        if random.random() < 0.3:
            yards = yards[:2]
        return crew, scheme, yards


def what_it_does(crew, scheme, yards):
    """Whether a ranking moves, and whether one returns."""
    return not moving(crew, scheme, yards).holds, not returning(crew, scheme, yards).holds


def settings_of(crew, scheme, yards):
    """All 128."""
    return [Setting(kind, crew, scheme, yards, sheet=sheet, again=again) for kind, sheet, again in ALL]


def fitting_tape(random, setting, most=8, keys="ab"):
    """A tape that fits the setting."""
    net = setting.net_for({key: list(range(len(setting.crew))) for key in keys}, gap=0)
    tape = random_tape(random, net, most=most, words=("event",) * 4 + ("raise",), finish=0)
    place = 0
    for yard in setting.yard_deeds():
        place = random.randint(place, len(tape))
        tape.insert(place, yard)
        place += 1
    return tape + [("finish",)] * (random.random() < 0.3)


def reason_by_the_words(kind, sheet, again, moves, returns):
    joins, letters, keeps = sheet
    if letters == "drop" and moves:
        return "dropped"
    if joins == "count" and kind != "bag" and kind != "set":
        return "order"
    if again and joins == "count":
        return "twice"
    if again and kind == "bag" and moves:
        return "twice"
    if keeps and returns and joins == "count":
        return "copies"
    if keeps and returns and kind == "bag":
        return "copies"
    return None

