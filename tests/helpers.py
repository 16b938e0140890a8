"""Webs, sets and names for the tests, and second ways to what is told of them.

The second ways go through the points of the document as they stand there,
slowly, and share nothing with the program.
"""

from fractions import Fraction
from functools import lru_cache
from itertools import combinations, permutations, product
from math import gcd


class Dice:
    """Numbers that look like any, and are the same in each run."""

    def __init__(self, seed):
        self.now = seed

    def roll(self, sides):
        self.now = (self.now * 6364136223846793005 + 1442695040888963407) % 2**64
        return (self.now >> 33) % sides

    def shuffled(self, things):
        rest = list(things)
        out = []
        while rest:
            out.append(rest.pop(self.roll(len(rest))))
        return out


# Webs

def bare_web(many):
    return (many, ())


def row_web(many):
    return (many, tuple((house, house + 1) for house in range(many - 1)))


def ring_web(many):
    return (many, tuple(sorted(row_web(many)[1] + ((0, many - 1),))))


def star_web(many):
    return (many, tuple((0, house) for house in range(1, many)))


def all_tied_web(many):
    return (many, tuple(combinations(range(many), 2)))


def any_web(many, dice, of_ten):
    """A web in which about so many of ten pairs are tied."""
    pairs = combinations(range(many), 2)
    return (many, tuple(pair for pair in pairs if dice.roll(10) < of_ten))


def all_webs(many):
    """Each web of so many houses."""
    return [(many, ties) for ties in all_sets(list(combinations(range(many), 2)), tuple)]


def all_sets(things, kind=list):
    """Each rising choice of some of the rising things, none and all, too."""
    out = []
    for size in range(len(things) + 1):
        out.extend(kind(chosen) for chosen in combinations(things, size))
    return out


def many_webs():
    """Webs of all the forms, from one house to sixty."""
    dice = Dice(4)
    webs = []
    for many in (1, 2, 3, 5, 8, 13, 31, 60):
        webs += [bare_web(many), row_web(many), star_web(many), all_tied_web(many)]
        if many >= 3:
            webs.append(ring_web(many))
        webs += [any_web(many, dice, of_ten) for of_ten in (1, 3, 7)]
    return webs


def forms(many):
    """Webs of so many houses, of all the forms, each once."""
    dice = Dice(11)
    webs = [bare_web(many), row_web(many), star_web(many), all_tied_web(many)]
    if many >= 3:
        webs.append(ring_web(many))
    webs += [any_web(many, dice, of_ten) for of_ten in (2, 5, 8)]
    return list(dict.fromkeys(webs))


# Names

def many_names(many, dice):
    """Lists of unlike names: small, far apart, below 0, of sixty figures, side by side."""
    small = dice.shuffled(range(many))
    return [
        small,
        sorted(small),
        sorted(small, reverse=True),
        [name - many // 2 for name in small],
        [-1000003 * name for name in small],
        [10**59 + name for name in small],
        [(-1) ** name * (10**60 - 1 - name) for name in small],
        [name**34 - 7 for name in small],
    ]


# Second ways

def near(web):
    """For each house those that it is tied to."""
    pairs = set(web[1])
    houses = range(web[0])
    return [[b for b in houses if (a, b) in pairs or (b, a) in pairs] for a in houses]


def apart(web, some):
    return not any(one in some and other in some for one, other in web[1])


def full(web, some):
    return all(
        house in some or any(other in some for other in others)
        for house, others in enumerate(near(web))
    )


def lacks(web, some):
    pairs = set(web[1])
    for one in some:
        for other in some:
            if (one, other) in pairs:
                return ("tied", one, other)
    for house, others in enumerate(near(web)):
        if house not in some and not any(other in some for other in others):
            return ("bare", house)
    return None


def set_by_names(web, names):
    """Go through the houses by rising names."""
    others = near(web)
    picked = []
    for name in sorted(names):
        house = names.index(name)
        if not any(other in picked for other in others[house]):
            picked.append(house)
    return sorted(picked)


def rounds_by_names(web, names):
    """Go through the rounds, one by one."""
    others = near(web)
    rows = [None] * web[0]
    left = list(range(web[0]))
    number = 0
    while left:
        number += 1
        chosen = [
            house for house in left
            if all(names[house] < names[other] for other in others[house] if other in left)
        ]
        out = [
            house for house in left
            if house not in chosen and any(other in chosen for other in others[house])
        ]
        for house in chosen:
            rows[house] = (True, number)
        for house in out:
            rows[house] = (False, number)
        left = [house for house in left if rows[house] is None]
    return rows


def right_rows(web, names, rows):
    """Hold each row against those of the neighbours of lesser names."""
    for house, others in enumerate(near(web)):
        lesser = [rows[other] for other in others if names[other] < names[house]]
        if any(chosen for chosen, _ in lesser):
            wanted = (False, min(number for chosen, number in lesser if chosen))
        elif lesser:
            wanted = (True, max(number for _, number in lesser) + 1)
        else:
            wanted = (True, 1)
        if rows[house] != wanted:
            return False
    return True


def first_alike(names):
    """The first house whose name stood ahead, or None."""
    for house, name in enumerate(names):
        if name in names[:house]:
            return house
    return None


def round_by_draws(web, left, numbers):
    """One round: those chosen, those out, those left behind it."""
    others = near(web)
    chosen = [
        house for house in left
        if not any(other in left and numbers[other] <= numbers[house] for other in others[house])
    ]
    out = [
        house for house in left
        if house not in chosen and any(other in chosen for other in others[house])
    ]
    return chosen, out, [house for house in left if house not in chosen and house not in out]


def run_by_draws(web, draws):
    """Go through the rounds of draws, one by one."""
    left = list(range(web[0]))
    rounds = []
    at = 0
    while left and at < len(draws):
        chosen, out, left = round_by_draws(web, left, draws[at])
        rounds.append((chosen, out))
        at += 1
    return rounds, left


def runs_of_all_draws(web, most):
    """All that is told of a web by any draws of at most so many rounds."""
    found = {((), tuple(range(web[0])))}
    last = found
    for _ in range(most):
        further = set()
        for rounds, left in last:
            # As many numbers as houses are enough for all ways to be less or alike.
            for numbers in product(range(web[0]), repeat=web[0] if left else 0):
                if left:
                    chosen, out, rest = round_by_draws(web, list(left), numbers)
                    further.add((rounds + ((tuple(chosen), tuple(out)),), tuple(rest)))
        last = further
        found = found | further
    return found


def right_run(web, rounds, left):
    """Hold a run against point 9, word by word."""
    pairs = set(web[1])
    others = near(web)
    here = list(range(web[0]))
    for chosen, out in rounds:
        if not here or any(house not in here for house in chosen):
            return False
        if any((one, other) in pairs for one in chosen for other in chosen):
            return False
        for house in here:
            if not any(other in here for other in others[house]) and house not in chosen:
                return False
        wanted = [house for house in here if any(other in chosen for other in others[house])]
        if out != wanted:
            return False
        here = [house for house in here if house not in chosen and house not in out]
    return here == left


def is_fraction(thing):
    """Whether a thing is a fraction as point 2 says it, of just these kinds."""
    if type(thing) is not tuple or [type(part) for part in thing] != [int, int]:
        return False
    return thing[1] >= 1 and gcd(*thing) == 1


def pair_of(number):
    """A Fraction as the program tells it."""
    return (number.numerator, number.denominator)


@lru_cache(maxsize=None)
def chances_from(web, sides, here):
    """The chance of each set behind a round, going through all rows of draws."""
    counts = {}
    for drawn in product(range(sides), repeat=len(here)):
        _, _, left = round_by_draws(web, list(here), dict(zip(here, drawn)))
        counts[tuple(left)] = counts.get(tuple(left), 0) + 1
    return {there: Fraction(count, sides ** len(here)) for there, count in counts.items()}


def sets_that_may_be_left(web, sides):
    found = {(), tuple(range(web[0]))}
    while True:
        more = {there for here in found for there in chances_from(web, sides, here)} - found
        if not more:
            return sorted(found)
        found |= more


def chances_behind(web, sides, most):
    """The chance that none is left behind 0, 1, .. rounds, one after the other."""
    now = {tuple(range(web[0])): Fraction(1)}
    out = [now.get((), Fraction(0))]
    for _ in range(most):
        behind = {}
        for here, chance in now.items():
            for there, more in chances_from(web, sides, here).items():
                behind[there] = behind.get(there, 0) + chance * more
        now = behind
        out.append(now.get((), Fraction(0)))
    return out


def means_of_all_sets(web, sides, wrong=None):
    """The mean from each set of houses on, lesser sets ahead; wrong is a set whose mean is off."""
    means = {(): Fraction(0)}
    for here in all_sets(range(web[0]), tuple)[1:]:
        chances = chances_from(web, sides, here)
        on = sum(chance * means[there] for there, chance in chances.items() if there != here)
        means[here] = (1 + on) / (1 - chances.get(here, 0))
        if here == wrong:
            means[here] += Fraction(1, 3)
    return means


def right_table(web, sides, rows):
    """Hold a table of means against point 12, word by word."""
    means = {left: Fraction(*mean) for left, mean in rows}
    if tuple(range(web[0])) not in means or () not in means or means[()] != 0:
        return False
    for left, mean in means.items():
        if left:
            chances = chances_from(web, sides, left)
            if any(there not in means for there in chances):
                return False
            if mean != 1 + sum(chance * means[there] for there, chance in chances.items()):
                return False
    return True


@lru_cache(maxsize=None)
def rows_over_all_orders(web):
    """For each order of names, going through the rounds, the rows of the houses."""
    return [rounds_by_names(web, list(names)) for names in permutations(range(web[0]))]


def mean_over(numbers):
    return pair_of(Fraction(sum(numbers), len(numbers)))
