"""Webs, sets and names for the tests, and second ways to what is told of them.

The second ways go through the points of the document as they stand there,
slowly, and share nothing with the program.
"""

from itertools import combinations


class Dice:
    """Numbers that look like any, and are the same in each run."""

    def __init__(self, seed):
        self.now = seed

    def roll(self, sides):
        self.now = (self.now * 6364136223846793005 + 1442695040888963407) % 2**64
        return (self.now >> 33) % sides

    def shuffled(self, things):
        rest = list(things)
        out = []
        while rest:
            out.append(rest.pop(self.roll(len(rest))))
        return out


# Webs

def bare_web(many):
    return (many, ())


def row_web(many):
    return (many, tuple((house, house + 1) for house in range(many - 1)))


def ring_web(many):
    return (many, tuple(sorted(row_web(many)[1] + ((0, many - 1),))))


def star_web(many):
    return (many, tuple((0, house) for house in range(1, many)))


def all_tied_web(many):
    return (many, tuple(combinations(range(many), 2)))


def any_web(many, dice, of_ten):
    """A web in which about so many of ten pairs are tied."""
    pairs = combinations(range(many), 2)
    return (many, tuple(pair for pair in pairs if dice.roll(10) < of_ten))


def all_webs(many):
    """Each web of so many houses."""
    return [(many, ties) for ties in all_sets(list(combinations(range(many), 2)), tuple)]


def all_sets(things, kind=list):
    """Each rising choice of some of the rising things, none and all, too."""
    out = []
    for size in range(len(things) + 1):
        out.extend(kind(chosen) for chosen in combinations(things, size))
    return out


def many_webs():
    """Webs of all the forms, from one house to sixty."""
    dice = Dice(4)
    webs = []
    for many in (1, 2, 3, 5, 8, 13, 31, 60):
        webs += [bare_web(many), row_web(many), star_web(many), all_tied_web(many)]
        if many >= 3:
            webs.append(ring_web(many))
        webs += [any_web(many, dice, of_ten) for of_ten in (1, 3, 7)]
    return webs


# Names

def many_names(many, dice):
    """Lists of unlike names: small, far apart, below 0, of sixty figures, side by side."""
    small = dice.shuffled(range(many))
    return [
        small,
        sorted(small),
        sorted(small, reverse=True),
        [name - many // 2 for name in small],
        [-1000003 * name for name in small],
        [10**59 + name for name in small],
        [(-1) ** name * (10**60 - 1 - name) for name in small],
        [name**34 - 7 for name in small],
    ]


# Second ways

def near(web):
    """For each house those that it is tied to."""
    pairs = set(web[1])
    houses = range(web[0])
    return [[b for b in houses if (a, b) in pairs or (b, a) in pairs] for a in houses]


def apart(web, some):
    return not any(one in some and other in some for one, other in web[1])


def full(web, some):
    return all(
        house in some or any(other in some for other in others)
        for house, others in enumerate(near(web))
    )


def lacks(web, some):
    pairs = set(web[1])
    for one in some:
        for other in some:
            if (one, other) in pairs:
                return ("tied", one, other)
    for house, others in enumerate(near(web)):
        if house not in some and not any(other in some for other in others):
            return ("bare", house)
    return None


def set_by_names(web, names):
    """Go through the houses by rising names."""
    others = near(web)
    picked = []
    for name in sorted(names):
        house = names.index(name)
        if not any(other in picked for other in others[house]):
            picked.append(house)
    return sorted(picked)


def rounds_by_names(web, names):
    """Go through the rounds, one by one."""
    others = near(web)
    rows = [None] * web[0]
    left = list(range(web[0]))
    number = 0
    while left:
        number += 1
        chosen = [
            house for house in left
            if all(names[house] < names[other] for other in others[house] if other in left)
        ]
        out = [
            house for house in left
            if house not in chosen and any(other in chosen for other in others[house])
        ]
        for house in chosen:
            rows[house] = (True, number)
        for house in out:
            rows[house] = (False, number)
        left = [house for house in left if rows[house] is None]
    return rows


def right_rows(web, names, rows):
    """Hold each row against those of the neighbours of lesser names."""
    for house, others in enumerate(near(web)):
        lesser = [rows[other] for other in others if names[other] < names[house]]
        if any(chosen for chosen, _ in lesser):
            wanted = (False, min(number for chosen, number in lesser if chosen))
        elif lesser:
            wanted = (True, max(number for _, number in lesser) + 1)
        else:
            wanted = (True, 1)
        if rows[house] != wanted:
            return False
    return True


def first_alike(names):
    """The first house whose name stood ahead, or None."""
    for house, name in enumerate(names):
        if name in names[:house]:
            return house
    return None
