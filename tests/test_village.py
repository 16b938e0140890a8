"""Villages: points 17 to 19, and what points 2 and 3 say of them."""

import inspect
import unittest
from itertools import permutations, product

from fullapart import errors
from fullapart import village as module
from fullapart.names import chosen_by
from fullapart.village import Village

from tests import helpers
from tests.helpers import Dice, PlainVillage, Refused, all_webs, many_names, set_of_village

FAR = 10**69
DEEDS = {"come": 1, "fall": 1, "tie": 2, "untie": 2, "step": 2}
LISTS = ("houses", "ties", "chosen", "waiting")


def outcome(village, word, *arguments):
    """What a deed or a question told, or the class that refused it; kinds count, too."""
    try:
        told = getattr(village, word)(*arguments)
    except errors.ApartError as error:
        return (type(error).__name__, getattr(error, "number", None))
    except Refused as error:
        return (error.kind, error.number)
    return ("told", repr(told))


def all_questions(came):
    """Every question, of houses that stand, that fell and that never came."""
    numbers = list(range(-1, came + 1)) + [FAR]
    rows = [(word,) for word in LISTS + ("count",)]
    rows += [("is_chosen", number) for number in numbers]
    return rows + [("under_way", one, other) for one in numbers for other in numbers]


def shown(village, came):
    """All that is told of a village."""
    return [outcome(village, *row) for row in all_questions(came)]


def village_of(web, names, dice=None):
    """A village with the houses and ties of a web, told in order or as the dice say."""
    village = Village()
    for name in names:
        village.come(name)
    for one, other in dice.shuffled(web[1]) if dice else web[1]:
        village.tie(*((one, other) if dice is None or dice.roll(2) else (other, one)))
    return village


def settle(village, pick):
    """Go on with any step, as pick tells it of those that may come, till none is under way."""
    steps = 0
    while village.waiting():
        village.step(*pick(village.waiting()))
        steps += 1
    return steps


def first_of(ways):
    return ways[0]


def last_of(ways):
    return ways[-1]


class Interface(unittest.TestCase):

    def test_defined_in_its_file_with_its_methods(self):
        self.assertTrue(inspect.isclass(Village))
        self.assertEqual(Village.__module__, "fullapart.village")
        wanted = {
            "come": ["name"], "fall": ["house"], "tie": ["one", "other"],
            "untie": ["one", "other"], "step": ["one", "other"], "houses": [], "ties": [],
            "is_chosen": ["house"], "chosen": [], "under_way": ["one", "other"], "waiting": [],
            "count": [],
        }
        for name, arguments in wanted.items():
            self.assertIn(name, vars(Village))
            method = vars(Village)[name]
            self.assertEqual(list(inspect.signature(method).parameters), ["self"] + arguments)
        Village()


class ByHand(unittest.TestCase):

    def assert_told(self, village, chosen, waiting, count):
        self.assertEqual(village.chosen(), chosen)
        self.assertEqual(village.waiting(), waiting)
        self.assertEqual(village.count(), count)

    def test_at_first_there_is_no_house(self):
        village = Village()
        self.assertEqual(village.houses(), [])
        self.assertEqual(village.ties(), [])
        self.assert_told(village, [], [], 0)

    def test_a_house_comes_and_is_chosen(self):
        village = Village()
        self.assertEqual(village.come(-7), 0)
        self.assertEqual(village.come(10**69), 1)
        self.assertEqual(village.houses(), [(0, -7), (1, 10**69)])
        self.assertIs(village.is_chosen(0), True)
        self.assert_told(village, [0, 1], [], 0)

    def test_two_are_tied(self):
        for one, other in ((0, 1), (1, 0)):
            village = village_of((2, ()), [9, 3])
            self.assertIsNone(village.tie(one, other))
            self.assertEqual(village.ties(), [(0, 1)])
            self.assert_told(village, [0, 1], [(1, 0)], 1)
            self.assertEqual(village.under_way(1, 0), [True])
            self.assertEqual(village.under_way(0, 1), [])
            self.assertIs(village.step(1, 0), True)
            self.assert_told(village, [1], [], 1)
            self.assertIs(village.is_chosen(0), False)
            self.assertEqual(village.under_way(1, 0), [])

    def test_a_house_that_is_not_chosen_tells_nothing_where_it_is_tied(self):
        village = village_of((3, ((0, 1),)), [1, 2, 3])
        village.step(0, 1)
        village.tie(1, 2)
        self.assertEqual(village.under_way(1, 2), [])
        self.assert_told(village, [0, 2], [], 1)

    def test_it_is_untied(self):
        village = village_of((2, ((0, 1),)), [1, 2])
        village.step(0, 1)
        self.assertEqual(village.chosen(), [0])
        self.assertIsNone(village.untie(1, 0))
        self.assertEqual(village.ties(), [])
        self.assert_told(village, [0, 1], [], 1)
        village.tie(0, 1)
        self.assert_told(village, [0, 1], [(0, 1)], 2)
        village.untie(0, 1)
        self.assert_told(village, [0, 1], [], 2)

    def test_each_turn_is_told_to_those_of_greater_names(self):
        # House 2 bears the least name, 0 the next, 3 and 1 greater ones.
        village = village_of((4, ((0, 1), (0, 2), (0, 3))), [5, 9, 1, 7])
        self.assert_told(village, [0, 1, 2, 3], [(0, 1), (0, 3), (2, 0)], 3)
        village.step(2, 0)
        self.assert_told(village, [1, 2, 3], [(0, 1), (0, 3)], 5)
        self.assertEqual(village.under_way(0, 1), [True, False])
        self.assertEqual(village.under_way(0, 3), [True, False])
        self.assertIs(village.step(0, 3), True)
        self.assert_told(village, [1, 2], [(0, 1), (0, 3)], 5)
        self.assertIs(village.step(0, 3), False)
        self.assert_told(village, [1, 2, 3], [(0, 1)], 5)
        village.untie(2, 0)
        self.assert_told(village, [0, 1, 2, 3], [(0, 1), (0, 3)], 7)
        self.assertEqual(village.under_way(0, 1), [True, False, True])
        self.assertEqual(village.under_way(0, 3), [True])

    def test_nothing_is_told_where_being_chosen_does_not_turn(self):
        # House 2 hears True of two; that one of them takes it back turns nothing yet.
        village = village_of((4, ((0, 2), (1, 2), (2, 3))), [1, 2, 3, 4])
        village.step(0, 2)
        self.assertEqual(village.under_way(2, 3), [True, False])
        village.step(1, 2)
        self.assertEqual(village.under_way(2, 3), [True, False])
        village.untie(0, 2)
        self.assertEqual(village.under_way(2, 3), [True, False])
        self.assertIs(village.is_chosen(2), False)
        village.fall(1)
        self.assertEqual(village.under_way(2, 3), [True, False, True])
        self.assertEqual(village.count(), 5)

    def test_a_house_falls(self):
        village = village_of((4, ((0, 1), (0, 2), (1, 2), (1, 3))), [1, 2, 3, 4])
        village.step(0, 1)
        village.step(0, 2)
        self.assertEqual(village.count(), 5 + 1)
        self.assertEqual(village.chosen(), [0, 3])
        self.assertIsNone(village.fall(0))
        self.assertEqual(village.houses(), [(1, 2), (2, 3), (3, 4)])
        self.assertEqual(village.ties(), [(1, 2), (1, 3)])
        # Houses 1 and 2 are chosen anew, and 1 tells so to 2 and 3.
        self.assertEqual(village.chosen(), [1, 2, 3])
        self.assertEqual(village.under_way(1, 2), [True, False, True])
        self.assertEqual(village.under_way(1, 3), [True, False, True])
        self.assertEqual(village.count(), 8)

    def test_a_falling_house_tells_nothing(self):
        # Its own being chosen would turn if its ties were untied one by one.
        for order in permutations(range(3)):
            village = Village()
            numbers = {name: village.come(name) for name in order}
            village.tie(numbers[0], numbers[1])
            village.tie(numbers[1], numbers[2])
            village.step(numbers[0], numbers[1])
            count = village.count()
            village.fall(numbers[1])
            self.assertEqual(village.count(), count)
            self.assertEqual(village.waiting(), [])
            self.assertEqual(village.chosen(), sorted((numbers[0], numbers[2])))

    def test_what_is_under_way_falls_with_a_house(self):
        village = village_of(helpers.row_web(3), [1, 2, 3])
        self.assertEqual(village.waiting(), [(0, 1), (1, 2)])
        village.fall(1)
        self.assert_told(village, [0, 2], [], 2)
        self.assertEqual(village.come(2), 3)
        village.tie(3, 0)
        village.tie(3, 2)
        self.assert_told(village, [0, 2, 3], [(0, 3), (3, 2)], 4)

    def test_numbers_are_never_told_again(self):
        village = Village()
        self.assertEqual([village.come(name) for name in (5, 6, 7)], [0, 1, 2])
        village.fall(2)
        self.assertEqual(village.come(7), 3)
        self.assertRaises(errors.NoName, village.come, 5)
        self.assertEqual(village.come(8), 4)
        for house in (0, 1, 3, 4):
            village.fall(house)
        self.assertEqual(village.come(5), 5)
        self.assertEqual(village.houses(), [(5, 5)])

    def test_one_is_tied_to_many(self):
        village = village_of(helpers.star_web(60), list(range(60)))
        self.assertEqual(village.waiting(), [(0, house) for house in range(1, 60)])
        for house in range(59, 0, -1):
            self.assertIs(village.step(0, house), True)
        self.assert_told(village, [0], [], 59)
        village.fall(0)
        self.assert_told(village, list(range(1, 60)), [], 59)

    def test_many_are_tied_to_one_of_a_greater_name(self):
        village = village_of(helpers.star_web(60), list(range(60, 0, -1)))
        self.assertEqual(village.waiting(), [(house, 0) for house in range(1, 60)])
        for house in range(1, 60):
            self.assertIs(village.step(house, 0), True)
            self.assertIs(village.is_chosen(0), False)
        for house in range(1, 60):
            self.assertIs(village.is_chosen(0), False)
            village.untie(0, house)
        self.assertIs(village.is_chosen(0), True)
        self.assertEqual(village.count(), 59)

    def test_things_are_under_way_in_the_order_in_which_they_were_told(self):
        village = village_of(helpers.row_web(2), [2, 3])
        wanted = [True]
        for turn in range(5):
            least = village.come(turn - 9)
            village.tie(least, 0)
            village.step(least, 0)
            village.fall(least)
            wanted += [False, True]
        self.assertEqual(village.under_way(0, 1), wanted)
        self.assertEqual(village.waiting(), [(0, 1)])
        for at, truth in enumerate(wanted):
            self.assertEqual(village.under_way(0, 1), wanted[at:])
            self.assertIs(village.step(0, 1), truth)
            self.assertIs(village.is_chosen(1), not truth)
        self.assertRaises(errors.NoStep, village.step, 0, 1)


class Refusals(unittest.TestCase):

    def assert_refused(self, village, came, error, word, *arguments):
        before = shown(village, came)
        with self.assertRaises(errors.ApartError) as caught:
            getattr(village, word)(*arguments)
        self.assertIs(type(caught.exception), error, (word, arguments))
        self.assertEqual(shown(village, came), before)
        return caught.exception

    def village(self):
        """Houses 0, 1, 2, 3 stand, 4 fell; 0 and 1 are tied, 2 and 3, and 1 and 2."""
        village = village_of((5, ((0, 1), (1, 2), (2, 3), (3, 4))), [4, 2, 9, 7, 5])
        village.fall(4)
        return village

    def test_a_name_that_a_house_bears(self):
        village = self.village()
        for house, name in enumerate((4, 2, 9, 7)):
            error = self.assert_refused(village, 5, errors.NoName, "come", name)
            self.assertEqual(error.number, house)
            self.assertIs(type(error.number), int)
        self.assertEqual(village.come(5), 5)
        self.assertEqual(self.assert_refused(village, 6, errors.NoName, "come", 5).number, 5)

    def test_no_house(self):
        village = self.village()
        for house in (4, 5, -1, -4, FAR, -FAR):
            for word in ("fall", "is_chosen"):
                self.assert_refused(village, 5, errors.NoHouse, word, house)
            for word in ("tie", "untie", "step", "under_way"):
                for one, other in ((house, 0), (0, house), (house, house), (house, 4), (5, house)):
                    self.assert_refused(village, 5, errors.NoHouse, word, one, other)

    def test_no_tie(self):
        village = self.village()
        for one, other in product(range(4), repeat=2):
            tied = abs(one - other) == 1
            if tied or one == other:
                self.assert_refused(village, 5, errors.NoTie, "tie", one, other)
            if not tied:
                for word in ("untie", "step", "under_way"):
                    self.assert_refused(village, 5, errors.NoTie, word, one, other)

    def test_no_step(self):
        village = self.village()
        # The lesser names are those of 1, by 0 and 2, and of 3, by 2.
        self.assertEqual(village.waiting(), [(1, 0), (1, 2), (3, 2)])
        for one, other in ((0, 1), (2, 1), (2, 3)):
            self.assert_refused(village, 5, errors.NoStep, "step", one, other)
        settle(village, first_of)
        for one, other in ((1, 0), (1, 2), (3, 2), (0, 1), (2, 1), (2, 3)):
            self.assert_refused(village, 5, errors.NoStep, "step", one, other)
        self.assert_refused(village, 5, errors.NoTie, "step", 0, 2)
        self.assert_refused(village, 5, errors.NoHouse, "step", 0, 4)

    def test_untied_twice_and_tied_twice(self):
        village = village_of((2, ()), [1, 2])
        self.assert_refused(village, 2, errors.NoTie, "untie", 0, 1)
        village.tie(0, 1)
        self.assert_refused(village, 2, errors.NoTie, "tie", 0, 1)
        self.assert_refused(village, 2, errors.NoTie, "tie", 1, 0)
        village.untie(1, 0)
        self.assert_refused(village, 2, errors.NoTie, "untie", 1, 0)
        self.assert_refused(village, 2, errors.NoTie, "step", 0, 1)
        self.assert_refused(village, 2, errors.NoTie, "under_way", 0, 1)

    def test_an_empty_village(self):
        for row in (("fall", 0), ("is_chosen", 0), ("tie", 0, 0), ("tie", 0, 1), ("untie", 0, 1),
                    ("step", 0, 1), ("under_way", 0, 1)):
            self.assert_refused(Village(), 0, errors.NoHouse, *row)


class AnyDeeds(unittest.TestCase):
    """Deeds as the dice say, refused ones among them, each held against the plain village."""

    def a_deed(self, dice, plain, names):
        words = list(DEEDS) + ["come", "tie", "tie", "tie", "step", "step", "step"]
        word = words[dice.roll(len(words))]
        if word == "come":
            return (word, names[dice.roll(len(names))])
        if word == "step" and plain.letters and dice.roll(4):
            return (word,) + plain.letters[dice.roll(len(plain.letters))][:2]
        standing = sorted(plain.name_of) if dice.roll(8) else []
        numbers = standing or list(range(-1, plain.came + 1))
        return (word,) + tuple(numbers[dice.roll(len(numbers))] for _ in range(DEEDS[word]))

    def assert_alike(self, village, plain, dice):
        for row in dice.shuffled(all_questions(plain.came)):
            self.assertEqual(outcome(village, *row), outcome(plain, *row), row)

    def lists_of_names(self):
        return (
            list(range(6)), [3, -1, 0, 8, -20, 7, 2], [10**60 - 1, -FAR, FAR, FAR + 1, 0, 1, -1],
            list(range(12)), [name**3 - 90 for name in range(9)],
        )

    def test_each_deed_and_every_question_behind_it(self):
        refused = set()
        for seed in range(30):
            dice = Dice(seed)
            names = self.lists_of_names()[seed % 5]
            village, plain = Village(), PlainVillage()
            for _ in range(60):
                row = self.a_deed(dice, plain, names)
                told = outcome(village, *row)
                self.assertEqual(told, outcome(plain, *row), row)
                refused.add(told[0])
                self.assert_alike(village, plain, dice)
        self.assertEqual(refused, {"told", "NoName", "NoHouse", "NoTie", "NoStep"})

    def test_long_rows_of_deeds(self):
        for seed in range(30):
            dice = Dice(100 + seed)
            names = self.lists_of_names()[seed % 5]
            village, plain = Village(), PlainVillage()
            for _ in range(500):
                row = self.a_deed(dice, plain, names)
                self.assertEqual(outcome(village, *row), outcome(plain, *row), row)
            for word in LISTS + ("count",):
                self.assertEqual(outcome(village, word), outcome(plain, word))
            for one, other in plain.waiting():
                self.assertEqual(village.under_way(one, other), plain.under_way(one, other))
            settle(village, lambda ways: ways[dice.roll(len(ways))])
            self.assertEqual(village.chosen(), set_of_village(village))

    def test_two_villages_by_turns(self):
        dice = Dice(77)
        pairs = [(Village(), PlainVillage()) for _ in range(2)]
        for _ in range(200):
            village, plain = pairs[dice.roll(2)]
            row = self.a_deed(dice, plain, list(range(7)))
            self.assertEqual(outcome(village, *row), outcome(plain, *row), row)
            for each, model in pairs:
                for word in LISTS + ("count",):
                    self.assertEqual(outcome(each, word), outcome(model, word))
        for village, plain in pairs:
            self.assert_alike(village, plain, dice)


class WhenNothingIsUnderWay(unittest.TestCase):
    """The chosen ones are the set by names, in whatever order letters came."""

    def test_any_order_of_letters(self):
        dice = Dice(21)
        for web in helpers.many_webs():
            if len(web[1]) < 300:
                names = many_names(web[0], dice)[dice.roll(8)]
                for pick in (first_of, last_of, lambda ways: ways[dice.roll(len(ways))]):
                    village = village_of(web, names, dice)
                    settle(village, pick)
                    self.assertEqual(village.chosen(), chosen_by(web, names), (web, names))

    def test_each_order_of_letters_of_small_webs(self):
        for web in all_webs(3) + [helpers.ring_web(4), helpers.row_web(4), helpers.star_web(4)]:
            for names in permutations(range(web[0])):
                wanted = helpers.set_by_names(web, list(names))
                self.assert_all_ways(web, names, [], wanted)

    def assert_all_ways(self, web, names, ahead, wanted):
        village = village_of(web, names)
        for way in ahead:
            village.step(*way)
        if not village.waiting():
            self.assertEqual(village.chosen(), wanted, (web, names, ahead))
        for way in village.waiting():
            self.assert_all_ways(web, names, ahead + [way], wanted)

    def test_whatever_came_ahead(self):
        dice = Dice(22)
        for _ in range(40):
            village = Village()
            for turn in range(25):
                village.come(dice.roll(10**6) * 1000 - turn)
            for _ in range(300):
                self.any_turn(village, dice)
            settle(village, lambda ways: ways[dice.roll(len(ways))])
            numbers = [number for number, _ in village.houses()]
            places = {number: place for place, number in enumerate(numbers)}
            ties = tuple((places[one], places[other]) for one, other in village.ties())
            picked = chosen_by((len(numbers), ties), [name for _, name in village.houses()])
            self.assertEqual(village.chosen(), [numbers[place] for place in picked])

    def any_turn(self, village, dice):
        numbers = [number for number, _ in village.houses()]
        one, other = [numbers[dice.roll(len(numbers))] for _ in range(2)]
        turn = dice.roll(12)
        if turn == 0 and len(numbers) > 12:
            village.fall(one)
        elif turn == 1:
            village.come(dice.roll(2 * 10**9) - 10**9)
        elif turn < 5 and village.waiting():
            village.step(*village.waiting()[dice.roll(len(village.waiting()))])
        elif (min(one, other), max(one, other)) in village.ties():
            village.untie(one, other)
        elif one != other:
            village.tie(one, other)


class Large(unittest.TestCase):
    """How many come, and how many are tied, isn't bounded."""

    def test_many_tied_to_one(self):
        many = 5000
        village = Village()
        for name in range(many):
            village.come(name)
        for house in range(many - 1):
            village.tie(house, many - 1)
        for house in range(many - 1):
            village.step(house, many - 1)
        self.assertEqual(village.chosen(), list(range(many - 1)))
        for house in range(many - 1):
            village.fall(house)
        self.assertEqual(village.chosen(), [many - 1])
        self.assertEqual(village.count(), many - 1)

    def test_a_long_row(self):
        many = 1500
        village = Village()
        for name in range(many):
            village.come(name)
        for house in range(many - 1):
            village.tie(house, house + 1)
        for house in range(many - 1):
            while village.under_way(house, house + 1):
                village.step(house, house + 1)
        self.assertEqual(village.waiting(), [])
        self.assertEqual(village.chosen(), list(range(0, many, 2)))
        village.fall(0)
        for house in range(1, many - 1):
            while village.under_way(house, house + 1):
                village.step(house, house + 1)
        self.assertEqual(village.chosen(), list(range(1, many, 2)))


class NothingIsKept(unittest.TestCase):

    def test_told_lists_are_the_askers_own(self):
        village = village_of(helpers.ring_web(5), [3, 1, 4, 15, 9])
        questions = [(word,) for word in LISTS] + [("under_way", 1, 0), ("under_way", 0, 1)]
        for word, *arguments in questions:
            before = shown(village, 5)
            first = getattr(village, word)(*arguments)
            second = getattr(village, word)(*arguments)
            held = list(second)
            self.assertIsNot(first, second)
            first.append("x")
            first[0] = None
            first.reverse()
            self.assertEqual(second, held)
            self.assertEqual(shown(village, 5), before)

    def test_a_told_list_is_not_turned_by_what_is_done_later(self):
        village = village_of(helpers.ring_web(5), [3, 1, 4, 15, 9])
        questions = [(word,) for word in LISTS] + [("under_way", 1, 0)]
        held = [getattr(village, word)(*arguments) for word, *arguments in questions]
        copies = [list(told) for told in held]
        village.step(1, 0)
        village.untie(2, 3)
        village.come(0)
        village.fall(1)
        self.assertEqual(held, copies)

    def test_questions_turn_nothing(self):
        asked, unasked = [village_of(helpers.ring_web(6), [5, 2, 8, 1, 9, 3]) for _ in range(2)]
        while unasked.waiting():
            shown(asked, 6)
            way = asked.waiting()[-1]
            self.assertEqual(asked.step(*way), unasked.step(*way))
        self.assertEqual(shown(asked, 6), shown(unasked, 6))


if __name__ == "__main__":
    unittest.main()
