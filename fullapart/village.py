"""A village: houses come and fall, and choose by letters that come in any order."""

from fullapart.errors import NoHouse, NoName, NoStep, NoTie


class House:
    """A house that stands: its name, its ties, and what it heard.

    heard tells of each house of a lesser name that it is tied to what it heard of it
    last; the keys of greater are those of greater names; truths counts the True ones
    of heard.
    """

    def __init__(self, name):
        self.name = name
        self.heard = {}
        self.greater = {}
        # Kept, for to count anew at each letter would be slow where very many
        # are tied to one house.
        self.truths = 0

    def is_tied_to(self, number):
        """Tell whether it is tied to the house of this number."""
        return number in self.heard or number in self.greater

    def hear(self, number, truth):
        """Keep what is heard of a house, and tell whether its own being chosen turns by it."""
        ahead = self.truths
        self.truths = ahead + int(truth) - int(self.heard[number])
        self.heard[number] = truth
        return (ahead == 0) != (self.truths == 0)

    def forget(self, number):
        """Forget what was heard of a house, and tell whether its own being chosen turns by it."""
        turned = self.hear(number, False)
        del self.heard[number]
        return turned


class Village:
    """Houses that stand, their ties, and the letters that are under way."""

    def __init__(self):
        self._came = 0
        self._told = 0
        self._standing = {}
        self._house_of_name = {}
        # A way on which nothing is under way has no entry, so that those that wait
        # are told without going through all ties.
        self._letters = {}

    def come(self, name):
        """Let a house come, and tell its number."""
        if name in self._house_of_name:
            raise NoName(self._house_of_name[name])
        house = self._came
        self._came += 1
        self._standing[house] = House(name)
        self._house_of_name[name] = house
        return house

    def fall(self, house):
        """Let a house fall, and with it its ties."""
        self._refuse_no_house(house)
        falling = self._standing[house]
        for lesser in list(falling.heard):
            self._part(lesser, house)
        turned = []
        for greater in sorted(falling.greater):
            if self._part(house, greater):
                turned.append(greater)
        del self._house_of_name[falling.name]
        del self._standing[house]
        # Behind all of these, for the ties are untied at once.
        for other in turned:
            self._tell(other)

    def tie(self, one, other):
        """Tie two houses."""
        self._refuse_no_house(one)
        self._refuse_no_house(other)
        if one == other or self._standing[one].is_tied_to(other):
            raise NoTie("these are one house, or tied already")
        lesser, greater = self._by_names(one, other)
        self._standing[lesser].greater[greater] = True
        self._standing[greater].heard[lesser] = False
        if self.is_chosen(lesser):
            self._send(lesser, greater, True)

    def untie(self, one, other):
        """Untie two houses, which forget one another."""
        self._refuse_untied(one, other)
        lesser, greater = self._by_names(one, other)
        if self._part(lesser, greater):
            self._tell(greater)

    def step(self, one, other):
        """Let the first thing that is under way from one house to another come, and tell it."""
        self._refuse_untied(one, other)
        way = (one, other)
        if way not in self._letters:
            raise NoStep("nothing is under way from the one house to the other")
        truth = self._letters[way].pop(0)
        if not self._letters[way]:
            del self._letters[way]
        if self._standing[other].hear(one, truth):
            self._tell(other)
        return truth

    def houses(self):
        """Tell the houses that stand, with their names."""
        return sorted([(number, house.name) for number, house in self._standing.items()])

    def ties(self):
        """Tell the ties."""
        told = []
        for number, house in self._standing.items():
            told.extend([(min(number, other), max(number, other)) for other in house.greater])
        return sorted(told)

    def is_chosen(self, house):
        """Tell whether a house is chosen now."""
        self._refuse_no_house(house)
        return self._standing[house].truths == 0

    def chosen(self):
        """Tell all houses that are chosen now."""
        return sorted([number for number, house in self._standing.items() if house.truths == 0])

    def under_way(self, one, other):
        """Tell what is under way from one house to another."""
        self._refuse_untied(one, other)
        return list(self._letters.get((one, other), []))

    def waiting(self):
        """Tell all (from, to) on which something is under way."""
        return sorted(self._letters)

    def count(self):
        """Tell how many things were told by now."""
        return self._told

    def _refuse_no_house(self, house):
        """Refuse a number of which no house stands."""
        if house not in self._standing:
            raise NoHouse("no house of this number stands")

    def _refuse_untied(self, one, other):
        """Refuse numbers of which no house stands, and houses that are not tied."""
        self._refuse_no_house(one)
        self._refuse_no_house(other)
        if not self._standing[one].is_tied_to(other):
            raise NoTie("these houses are not tied")

    def _by_names(self, one, other):
        """Tell two houses, that of the lesser name first."""
        if self._standing[one].name < self._standing[other].name:
            return (one, other)
        return (other, one)

    def _part(self, lesser, greater):
        """Undo a tie, and tell whether by it the being chosen of the greater name's house turns."""
        # Nothing ever goes from a greater name to a lesser one.
        self._letters.pop((lesser, greater), None)
        del self._standing[lesser].greater[greater]
        return self._standing[greater].forget(lesser)

    def _send(self, one, other, truth):
        """Set a thing under way from one house to another."""
        self._letters.setdefault((one, other), []).append(truth)
        self._told += 1

    def _tell(self, house):
        """Let a house tell those of greater names whether it is chosen now."""
        truth = self.is_chosen(house)
        for other in sorted(self._standing[house].greater):
            self._send(house, other, truth)
