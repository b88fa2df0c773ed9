"""What several tests need."""

import itertools

from movedstates.kinds import KIND_NAMES


class EqualToAll:
    """A thing that claims to be equal to everything, and is no string."""

    def __eq__(self, other):
        return True


NOT_KINDS = ("List", "lists", "list ", "", "bags", "tail", None, 0, True, (), ("list",), ["list"], object(), EqualToAll())


def words_up_to(length, values):
    """All words of these values, up to a length."""
    for many in range(length + 1):
        yield from itertools.product(values, repeat=many)


def kind_pairs():
    """All 64 pairs of kinds."""
    return list(itertools.product(KIND_NAMES, repeat=2))


def random_letters(random, *, most=7, full=True, values=(5, 6, 7)):
    """Fitting letters; complete ones if full is True, otherwise with numbers missing."""
    letters = []
    time = random.randint(-3, 3)
    number = -1 if full else random.choice((-1, -1, 0, 1))
    for _ in range(random.randint(0, most)):
        time += random.choice((0, 0, 1, 2, 3, 4))
        number += 1 if full else random.choice((1, 1, 2, 3))
        letters.append((number, time, random.choice(values)))
    return letters


def mark_is_true(letters, mark):
    """Whether what the mark says holds for the letters (point 14)."""
    if mark is None:
        return True
    count, floor = mark
    return all(floor is not None and time >= floor for number, time, _ in letters if number >= count)


def is_base(letters, base, gap):
    """Whether this is a base of the complete letters (point 27)."""
    if base in (0, len(letters)):
        return True
    return base < len(letters) and letters[base][1] > letters[base - 1][1] + gap


def random_mark(random, letters):
    """A mark that is true of the letters."""
    last = letters[-1][1] if letters else 0
    while True:
        count = random.randint(0, len(letters) + 2)
        floor = random.choice((None, random.randint(-4, last + 8)))
        mark = random.choice((None, (count, floor)))
        if mark_is_true(letters, mark):
            return mark


def parts_seen(holding):
    """All that a holding is made of."""
    return [holding.kind, holding.gap, holding.base, holding.blocks]


class OneTape:
    """Complete letters, and two lists of some of them, each with a base."""

    def __init__(self, random, *, most=9, values=(5, 6, 7), shares=(0.3, 0.5, 0.8, 1)):
        self.gap = random.randint(0, 3)
        self.letters = random_letters(random, most=most, values=values)
        self.bases = [at for at in range(len(self.letters) + 1) if is_base(self.letters, at, self.gap)]
        self.one, self.other = [[letter for letter in self.letters if random.random() < random.choice(shares)] for _ in range(2)]
        self.one_base, self.other_base = random.choice(self.bases), random.choice(self.bases)

    def both(self):
        """The letters of both lists."""
        return [letter for letter in self.letters if letter in self.one or letter in self.other]

    def base(self):
        return max(self.one_base, self.other_base)
