"""What the tests of owners need: crews, yards and schemes at random, and holders straight from points 55 and 56."""

import itertools

from movedstates.crews import Crew
from movedstates.schemes import Scheme

MAKES = ["a", "b", "c"]


def random_crew(random, most=5):
    return Crew([(name, random.choice(MAKES)) for name in "uvwxyz"[:random.randint(1, most)]])


def random_yard(random, crew):
    while True:
        yard = tuple(worker for worker in range(len(crew)) if random.random() < 0.6)
        if yard:
            return yard


def random_yards(random, crew, most=6):
    return [random_yard(random, crew) for _ in range(random.randint(1, most))]


def random_group(random):
    return ("any",) if random.random() < 0.4 else ("make", random.choice(MAKES))


def random_scheme(random):
    """Rules often have bounds of the sign ">=", as these let workers that come ahead of the holder take it away."""
    many = random.choice(((0, 1, 2), (1, 1, 2)))
    signs = random.choice((("<", ">="), (">=",)))
    return Scheme([(random_group(random), tuple((random_group(random), random.choice(signs), random.choice((1, 1, 1, 2, 3)))
                                                for _ in range(random.choice(many)))) for _ in range(random.randint(0, 3))])


def random_loads(random, crew, most=6):
    return [(random.sample(range(len(crew)), len(crew)), random.choice((0, 1, 2, 5, 10 ** 20))) for _ in range(random.randint(0, most))]


def holder_by_the_words(crew, scheme, ranking, yard):
    lineup = [worker for worker in ranking if worker in yard]
    for at, worker in enumerate(lineup):
        if scheme.takes(crew.make_of(worker), [crew.make_of(other) for other in lineup[:at]]):
            return worker
    return lineup[0]


def rankings_of(crew):
    """All rankings, ascending."""
    return list(itertools.permutations(range(len(crew))))


def step_kind(before, old, after, new):
    """None, or whether the move is needless (point 57)."""
    if old == new:
        return None
    return not (old not in after or new not in before)


def does(question, yards, held):
    """Whether a ranking with these holders moves, returns, or has a needless move (point 57)."""
    steps = [step_kind(*one, *other) for one, other in zip(list(zip(yards, held)), list(zip(yards, held))[1:])]
    if question == "moving":
        return any(step is not None for step in steps)
    if question == "needless":
        return True in steps
    return any(held[i] == held[k] != held[j] for i, j, k in itertools.combinations(range(len(held)), 3))


def bad_yards(crew):
    many = len(crew)
    return [(), (many,), (-1,), (-1, 0), (0, 0), (0, many), (many - 1, 0) if many > 1 else (0, 0), (0, many - 1, many - 1), (0, 99)]


def bad_rankings(crew):
    many = len(crew)
    good = list(range(many))
    return [[], good + [0], good + [many], good[:-1], [one + 1 for one in good], [one - 1 for one in good], good[:-1] + [many],
            [0] * (many + 1), good + good, tuple(good[1:])] + ([[0] * many, [many - 1] * many] if many > 1 else [[1], [-1]])
