"""Webs, sets and names for the tests, and second ways to what is told of them.

The second ways go through the points of the document as they stand there,
slowly, and share nothing with the program.
"""

import re
from fractions import Fraction
from functools import lru_cache
from itertools import combinations, permutations, product
from math import gcd


class Dice:
    """Numbers that look like any, and are the same in each run."""

    def __init__(self, seed):
        self.now = seed

    def roll(self, sides):
        self.now = (self.now * 6364136223846793005 + 1442695040888963407) % 2**64
        return (self.now >> 33) % sides

    def shuffled(self, things):
        rest = list(things)
        out = []
        while rest:
            out.append(rest.pop(self.roll(len(rest))))
        return out


# Webs

def bare_web(many):
    return (many, ())


def row_web(many):
    return (many, tuple((house, house + 1) for house in range(many - 1)))


def ring_web(many):
    return (many, tuple(sorted(row_web(many)[1] + ((0, many - 1),))))


def star_web(many):
    return (many, tuple((0, house) for house in range(1, many)))


def all_tied_web(many):
    return (many, tuple(combinations(range(many), 2)))


def any_web(many, dice, of_ten):
    """A web in which about so many of ten pairs are tied."""
    pairs = combinations(range(many), 2)
    return (many, tuple(pair for pair in pairs if dice.roll(10) < of_ten))


def all_webs(many):
    """Each web of so many houses."""
    return [(many, ties) for ties in all_sets(list(combinations(range(many), 2)), tuple)]


def all_sets(things, kind=list):
    """Each rising choice of some of the rising things, none and all, too."""
    out = []
    for size in range(len(things) + 1):
        out.extend(kind(chosen) for chosen in combinations(things, size))
    return out


def many_webs():
    """Webs of all the forms, from one house to sixty."""
    dice = Dice(4)
    webs = []
    for many in (1, 2, 3, 5, 8, 13, 31, 60):
        webs += [bare_web(many), row_web(many), star_web(many), all_tied_web(many)]
        if many >= 3:
            webs.append(ring_web(many))
        webs += [any_web(many, dice, of_ten) for of_ten in (1, 3, 7)]
    return webs


def forms(many):
    """Webs of so many houses, of all the forms, each once."""
    dice = Dice(11)
    webs = [bare_web(many), row_web(many), star_web(many), all_tied_web(many)]
    if many >= 3:
        webs.append(ring_web(many))
    webs += [any_web(many, dice, of_ten) for of_ten in (2, 5, 8)]
    return list(dict.fromkeys(webs))


# Names

def many_names(many, dice):
    """Lists of unlike names: small, far apart, below 0, of sixty figures, side by side."""
    small = dice.shuffled(range(many))
    return [
        small,
        sorted(small),
        sorted(small, reverse=True),
        [name - many // 2 for name in small],
        [-1000003 * name for name in small],
        [10**59 + name for name in small],
        [(-1) ** name * (10**60 - 1 - name) for name in small],
        [name**34 - 7 for name in small],
    ]


# Second ways

def near(web):
    """For each house those that it is tied to."""
    pairs = set(web[1])
    houses = range(web[0])
    return [[b for b in houses if (a, b) in pairs or (b, a) in pairs] for a in houses]


def apart(web, some):
    return not any(one in some and other in some for one, other in web[1])


def full(web, some):
    return all(
        house in some or any(other in some for other in others)
        for house, others in enumerate(near(web))
    )


def lacks(web, some):
    pairs = set(web[1])
    for one in some:
        for other in some:
            if (one, other) in pairs:
                return ("tied", one, other)
    for house, others in enumerate(near(web)):
        if house not in some and not any(other in some for other in others):
            return ("bare", house)
    return None


def set_by_names(web, names):
    """Go through the houses by rising names."""
    others = near(web)
    picked = []
    for name in sorted(names):
        house = names.index(name)
        if not any(other in picked for other in others[house]):
            picked.append(house)
    return sorted(picked)


def rounds_by_names(web, names):
    """Go through the rounds, one by one."""
    others = near(web)
    rows = [None] * web[0]
    left = list(range(web[0]))
    number = 0
    while left:
        number += 1
        chosen = [
            house for house in left
            if all(names[house] < names[other] for other in others[house] if other in left)
        ]
        out = [
            house for house in left
            if house not in chosen and any(other in chosen for other in others[house])
        ]
        for house in chosen:
            rows[house] = (True, number)
        for house in out:
            rows[house] = (False, number)
        left = [house for house in left if rows[house] is None]
    return rows


def right_rows(web, names, rows):
    """Hold each row against those of the neighbours of lesser names."""
    for house, others in enumerate(near(web)):
        lesser = [rows[other] for other in others if names[other] < names[house]]
        if any(chosen for chosen, _ in lesser):
            wanted = (False, min(number for chosen, number in lesser if chosen))
        elif lesser:
            wanted = (True, max(number for _, number in lesser) + 1)
        else:
            wanted = (True, 1)
        if rows[house] != wanted:
            return False
    return True


def first_alike(names):
    """The first house whose name stood ahead, or None."""
    for house, name in enumerate(names):
        if name in names[:house]:
            return house
    return None


def round_by_draws(web, left, numbers):
    """One round: those chosen, those out, those left behind it."""
    others = near(web)
    chosen = [
        house for house in left
        if not any(other in left and numbers[other] <= numbers[house] for other in others[house])
    ]
    out = [
        house for house in left
        if house not in chosen and any(other in chosen for other in others[house])
    ]
    return chosen, out, [house for house in left if house not in chosen and house not in out]


def run_by_draws(web, draws):
    """Go through the rounds of draws, one by one."""
    left = list(range(web[0]))
    rounds = []
    at = 0
    while left and at < len(draws):
        chosen, out, left = round_by_draws(web, left, draws[at])
        rounds.append((chosen, out))
        at += 1
    return rounds, left


def runs_of_all_draws(web, most):
    """All that is told of a web by any draws of at most so many rounds."""
    found = {((), tuple(range(web[0])))}
    last = found
    for _ in range(most):
        further = set()
        for rounds, left in last:
            # As many numbers as houses are enough for all ways to be less or alike.
            for numbers in product(range(web[0]), repeat=web[0] if left else 0):
                if left:
                    chosen, out, rest = round_by_draws(web, list(left), numbers)
                    further.add((rounds + ((tuple(chosen), tuple(out)),), tuple(rest)))
        last = further
        found = found | further
    return found


def right_run(web, rounds, left):
    """Hold a run against point 9, word by word."""
    pairs = set(web[1])
    others = near(web)
    here = list(range(web[0]))
    for chosen, out in rounds:
        if not here or any(house not in here for house in chosen):
            return False
        if any((one, other) in pairs for one in chosen for other in chosen):
            return False
        for house in here:
            if not any(other in here for other in others[house]) and house not in chosen:
                return False
        wanted = [house for house in here if any(other in chosen for other in others[house])]
        if out != wanted:
            return False
        here = [house for house in here if house not in chosen and house not in out]
    return here == left


def is_fraction(thing):
    """Whether a thing is a fraction as point 2 says it, of just these kinds."""
    if type(thing) is not tuple or [type(part) for part in thing] != [int, int]:
        return False
    return thing[1] >= 1 and gcd(*thing) == 1


def pair_of(number):
    """A Fraction as the program tells it."""
    return (number.numerator, number.denominator)


@lru_cache(maxsize=None)
def chances_from(web, sides, here):
    """The chance of each set behind a round, going through all rows of draws."""
    counts = {}
    for drawn in product(range(sides), repeat=len(here)):
        _, _, left = round_by_draws(web, list(here), dict(zip(here, drawn)))
        counts[tuple(left)] = counts.get(tuple(left), 0) + 1
    return {there: Fraction(count, sides ** len(here)) for there, count in counts.items()}


def sets_that_may_be_left(web, sides):
    found = {(), tuple(range(web[0]))}
    while True:
        more = {there for here in found for there in chances_from(web, sides, here)} - found
        if not more:
            return sorted(found)
        found |= more


def chances_behind(web, sides, most):
    """The chance that none is left behind 0, 1, .. rounds, one after the other."""
    now = {tuple(range(web[0])): Fraction(1)}
    out = [now.get((), Fraction(0))]
    for _ in range(most):
        behind = {}
        for here, chance in now.items():
            for there, more in chances_from(web, sides, here).items():
                behind[there] = behind.get(there, 0) + chance * more
        now = behind
        out.append(now.get((), Fraction(0)))
    return out


def means_of_all_sets(web, sides, wrong=None):
    """The mean from each set of houses on, lesser sets ahead; wrong is a set whose mean is off."""
    means = {(): Fraction(0)}
    for here in all_sets(range(web[0]), tuple)[1:]:
        chances = chances_from(web, sides, here)
        on = sum(chance * means[there] for there, chance in chances.items() if there != here)
        means[here] = (1 + on) / (1 - chances.get(here, 0))
        if here == wrong:
            means[here] += Fraction(1, 3)
    return means


def right_table(web, sides, rows):
    """Hold a table of means against point 12, word by word."""
    means = {left: Fraction(*mean) for left, mean in rows}
    if tuple(range(web[0])) not in means or () not in means or means[()] != 0:
        return False
    for left, mean in means.items():
        if left:
            chances = chances_from(web, sides, left)
            if any(there not in means for there in chances):
                return False
            if mean != 1 + sum(chance * means[there] for there, chance in chances.items()):
                return False
    return True


@lru_cache(maxsize=None)
def rows_over_all_orders(web):
    """For each order of names, going through the rounds, the rows of the houses."""
    return [rounds_by_names(web, list(names)) for names in permutations(range(web[0]))]


def mean_over(numbers):
    return pair_of(Fraction(sum(numbers), len(numbers)))


# Pairings and hues

def touch(tie, other):
    return bool(set(tie) & set(other))


def ties_as_houses(web):
    """The web of ties, by each two ties."""
    pairs = combinations(range(len(web[1])), 2)
    return (len(web[1]), tuple(pair for pair in pairs if touch(*[web[1][at] for at in pair])))


def pairing(some):
    return not any(touch(one, other) for one, other in combinations(some, 2))


def full_pairing(web, some):
    return pairing(some) and all(any(touch(tie, one) for one in some) for tie in web[1])


def pairing_by_names(web, names):
    """Go through the ties by rising names."""
    picked = []
    for _, tie in sorted(zip(names, web[1])):
        if not any(touch(tie, other) for other in picked):
            picked.append(tie)
    return sorted(picked)


def house_and_hue(web, hues):
    """The web of house and hue, by each two houses of it."""
    pairs = set(web[1])

    def tied(one, other):
        (house, hue), (far, last) = divmod(one, hues), divmod(other, hues)
        return house == far or ((house, far) in pairs and hue == last)

    many = web[0] * hues
    return (many, tuple(pair for pair in combinations(range(many), 2) if tied(*pair)))


def hues_by_names(web, hues, names):
    """Go through houses and hues by rising names: a house takes the first hue that it may."""
    others = near(web)
    told = [None] * web[0]
    for _, at in sorted(zip(names, range(len(names)))):
        house, hue = at // hues, at - at // hues * hues
        if told[house] is None and all(told[other] != hue for other in others[house]):
            told[house] = hue
    return told


# Villages

class Refused(Exception):
    """What the plain village refuses with: the name of the class, and NoName's number."""

    def __init__(self, kind, number=None):
        super().__init__(kind)
        self.kind = kind
        self.number = number


class PlainVillage:
    """Points 17 to 19, word by word: one list of all that is under way, all else gone through."""

    def __init__(self):
        self.name_of = {}
        self.tied = set()
        self.kept = {}
        self.letters = []
        self.came = 0
        self.told = 0

    def stand(self, *houses):
        for house in houses:
            if house not in self.name_of:
                raise Refused("NoHouse")

    def stand_tied(self, one, other):
        self.stand(one, other)
        if frozenset((one, other)) not in self.tied:
            raise Refused("NoTie")

    def now_chosen(self, house):
        return not any(truth for (keeper, _), truth in self.kept.items() if keeper == house)

    def send(self, one, other):
        self.letters.append((one, other, self.now_chosen(one)))
        self.told += 1

    def all_chosen(self):
        return {house: self.now_chosen(house) for house in self.name_of}

    def tell_turned(self, before):
        now = self.all_chosen()
        for house in sorted(now):
            if house in before and before[house] != now[house]:
                for other in sorted(self.name_of):
                    tied = frozenset((house, other)) in self.tied
                    if tied and self.name_of[other] > self.name_of[house]:
                        self.send(house, other)

    def undo(self, pair):
        self.tied.discard(pair)
        self.letters = [row for row in self.letters if frozenset(row[:2]) != pair]
        self.kept = {way: self.kept[way] for way in self.kept if frozenset(way) != pair}

    def come(self, name):
        for house, other in self.name_of.items():
            if other == name:
                raise Refused("NoName", house)
        self.name_of[self.came] = name
        self.came += 1
        return self.came - 1

    def fall(self, house):
        self.stand(house)
        before = self.all_chosen()
        for pair in [pair for pair in self.tied if house in pair]:
            self.undo(pair)
        del self.name_of[house]
        self.tell_turned(before)

    def tie(self, one, other):
        self.stand(one, other)
        if one == other or frozenset((one, other)) in self.tied:
            raise Refused("NoTie")
        self.tied.add(frozenset((one, other)))
        lesser, greater = sorted((one, other), key=self.name_of.get)
        self.kept[greater, lesser] = False
        if self.now_chosen(lesser):
            self.send(lesser, greater)

    def untie(self, one, other):
        self.stand_tied(one, other)
        before = self.all_chosen()
        self.undo(frozenset((one, other)))
        self.tell_turned(before)

    def step(self, one, other):
        self.stand_tied(one, other)
        for at, (here, there, truth) in enumerate(self.letters):
            if (here, there) == (one, other):
                before = self.all_chosen()
                del self.letters[at]
                self.kept[other, one] = truth
                self.tell_turned(before)
                return truth
        raise Refused("NoStep")

    def houses(self):
        return sorted(self.name_of.items())

    def ties(self):
        return sorted(tuple(sorted(pair)) for pair in self.tied)

    def is_chosen(self, house):
        self.stand(house)
        return self.now_chosen(house)

    def chosen(self):
        return sorted(house for house in self.name_of if self.now_chosen(house))

    def under_way(self, one, other):
        self.stand_tied(one, other)
        return [truth for here, there, truth in self.letters if (here, there) == (one, other)]

    def waiting(self):
        return sorted({(one, other) for one, other, _ in self.letters})

    def count(self):
        return self.told


def set_of_village(village):
    """The set by names of the houses and ties that a village tells."""
    name_of = dict(village.houses())
    ties = village.ties()
    picked = set()
    for house in sorted(name_of, key=name_of.get):
        others = {one + other - house for one, other in ties if house in (one, other)}
        if not others & picked:
            picked.add(house)
    return sorted(picked)


# Texts

SIGNS = [chr(code) for code in range(32, 127) if chr(code) != "%"] + ["\n"]
NUMBER = "(?:0|[1-9][0-9]{0,59})"


def rises(things):
    return list(things) == sorted(set(things))


def written_web(text):
    """The web that a text writes, or None."""
    if not re.fullmatch(f"{NUMBER}(?: {NUMBER}-{NUMBER})*", text):
        return None
    many, *words = text.split(" ")
    ties = tuple(tuple(int(part) for part in word.split("-")) for word in words)
    if not 1 <= int(many) <= 60 or not rises(ties):
        return None
    if any(not one < other < int(many) for one, other in ties):
        return None
    return (int(many), ties)


def written_set(text):
    """The rising list that a text writes, or None."""
    if text == "none":
        return []
    if not re.fullmatch(f"{NUMBER}(?: {NUMBER})*", text):
        return None
    some = [int(word) for word in text.split(" ")]
    return some if rises(some) else None


def written_fraction(text):
    """The fraction that a text writes, or None."""
    if re.fullmatch(NUMBER, text):
        return (int(text), 1)
    if not re.fullmatch(f"{NUMBER}/{NUMBER}", text):
        return None
    over, under = (int(part) for part in text.split("/"))
    return (over, under) if under >= 2 and gcd(over, under) == 1 else None


def bent(text, signs):
    """The text with a sign put in, exchanged or left out at any place, or two exchanged."""
    for at in range(len(text) + 1):
        for sign in signs:
            yield text[:at] + sign + text[at:]
            yield text[:at] + sign + text[at + 1:]
        yield text[:at] + text[at + 1:]
        yield text[:at] + text[at + 1:at + 2] + text[at:at + 1] + text[at + 2:]


def parts_bent(text):
    """The text with a part left out, twice, or two exchanged; with blanks ahead, behind, twice."""
    words = text.split(" ")
    for at in range(len(words)):
        yield " ".join(words[:at] + words[at + 1:])
        yield " ".join(words[:at] + words[at:at + 1] + words[at:])
        yield " ".join(words[:at] + [""] + words[at:])
        for to in range(at):
            turned = list(words)
            turned[at], turned[to] = turned[to], turned[at]
            yield " ".join(turned)
    yield text + " "
    yield ""
