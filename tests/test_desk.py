"""The desk: point 21, and what point 2 says of it."""

import inspect
import re
import unittest
from itertools import combinations

from fullapart import desk as module
from fullapart.desk import Desk
from fullapart.errors import ApartError, NoHouse, NoHues, NoName, NoRow, NoTie
from fullapart.made import hues_by, pairing_by
from fullapart.means import mean_rounds
from fullapart.names import chosen_by, latest_by, rounds_by
from fullapart.orders import chance_in, mean_size, most_latest
from fullapart.webs import lacks_of

from tests import helpers
from tests.helpers import SIGNS, Dice, all_sets, all_webs, bent, forms, many_webs, parts_bent

A_NUMBER = "(?:0|[1-9][0-9]{0,3})"
NUMBERS = f"((?: {A_NUMBER})*)"
WORDS = ("names", "latest", "rounds", "lacks", "mean", "chance", "size", "most", "pairs", "hues")


def joined(things):
    return " ".join("none" if thing is None else str(thing) for thing in things)


def fraction_text(one):
    return str(one[0]) if one[1] == 1 else f"{one[0]}/{one[1]}"


def web_text(web):
    return joined([web[0]] + [f"{one}-{other}" for one, other in web[1]])


def answer_to(web, word, numbers):
    """What the functions tell of a row that is one of these by its words; None if it is none."""
    many = web[0]
    if word in ("names", "latest", "rounds") and len(numbers) == many:
        if word == "names":
            return joined(chosen_by(web, numbers))
        if word == "latest":
            return str(latest_by(web, numbers))
        return joined(number for _, number in rounds_by(web, numbers))
    if word == "lacks" and helpers.rises(numbers) and all(house < many for house in numbers):
        return joined(lacks_of(web, numbers) or ["none"])
    if word == "mean" and many <= 5 and numbers in ([2], [3], [4]):
        return fraction_text(mean_rounds(web, numbers[0])[0])
    if word == "chance" and many <= 6 and len(numbers) == 1:
        return fraction_text(chance_in(web, numbers[0]))
    if word == "size" and many <= 6 and not numbers:
        return fraction_text(mean_size(web))
    if word == "most" and many <= 6 and not numbers:
        return str(most_latest(web)[0])
    if word == "pairs" and len(numbers) == len(web[1]):
        return joined(f"{one}-{other}" for one, other in pairing_by(web, numbers))
    if word == "hues" and numbers and len(numbers) == 1 + many * numbers[0]:
        return joined(hues_by(web, numbers[0], numbers[1:]))
    return None


class PlainDesk:
    """Point 21 by patterns, over the functions of the program."""

    def __init__(self):
        self.web = None

    def say(self, row):
        told = helpers.written_web(row[4:]) if row.startswith("web ") else None
        if told is not None:
            self.web = told
            return "ok"
        match = re.fullmatch(f"({'|'.join(WORDS)}){NUMBERS}", row)
        answer = None
        if match and self.web is not None:
            answer = answer_to(self.web, match[1], [int(word) for word in match[2].split()])
        if answer is None:
            raise NoRow("by no pattern")
        return answer


def outcome(desk, row):
    try:
        told = desk.say(row)
    except ApartError as error:
        return (type(error).__name__, getattr(error, "number", None))
    return (type(told).__name__, told)


def desk_of(web):
    desk = Desk()
    desk.say("web " + web_text(web))
    return desk


class Interface(unittest.TestCase):

    def test_defined_in_its_file_with_its_method(self):
        self.assertTrue(inspect.isclass(Desk))
        self.assertEqual(Desk.__module__, "fullapart.desk")
        self.assertEqual(Desk.__module__, module.__name__)
        self.assertIn("say", vars(Desk))
        self.assertEqual(list(inspect.signature(vars(Desk)["say"]).parameters), ["self", "row"])


class ByHand(unittest.TestCase):

    def assert_answers(self, desk, *rows):
        # Twice, for no row but web turns anything.
        for _ in range(2):
            for row, answer in rows:
                self.assertEqual(desk.say(row), answer, row)

    def test_a_row_of_four(self):
        desk = Desk()
        self.assertEqual(desk.say("web 4 0-1 1-2 2-3"), "ok")
        self.assert_answers(
            desk, ("names 10 20 30 40", "0 2"), ("names 9 0 8 7", "1 3"), ("latest 10 20 30 40", "2"),
            ("rounds 10 20 30 40", "1 1 2 2"), ("rounds 2 1 9999 0", "1 1 1 1"), ("lacks", "bare 0"),
            ("lacks 0", "bare 2"), ("lacks 0 1", "tied 0 1"), ("lacks 0 2", "none"),
            ("lacks 0 2 3", "tied 2 3"), ("chance 0", "5/8"), ("chance 1", "3/8"), ("size", "2"),
            ("most", "2"), ("pairs 1 2 3", "0-1 2-3"), ("pairs 2 1 3", "1-2"), ("hues 1 1 2 3 4", "0 none 0 none"),
            ("hues 2 0 1 2 3 4 5 6 7", "0 1 0 1"), ("mean 2", "26/9"),
        )

    def test_a_row_of_three(self):
        desk = desk_of(helpers.row_web(3))
        self.assert_answers(
            desk, ("mean 2", "5/2"), ("chance 0", "2/3"), ("chance 1", "1/3"), ("size", "5/3"),
            ("most", "2"), ("names 5 0 7", "1"), ("latest 5 0 7", "1"), ("rounds 5 6 7", "1 1 2"),
        )

    def test_one_house(self):
        desk = desk_of((1, ()))
        self.assert_answers(
            desk, ("names 0", "0"), ("latest 7", "1"), ("rounds 7", "1"), ("lacks", "bare 0"),
            ("lacks 0", "none"), ("mean 4", "1"), ("chance 0", "1"), ("size", "1"), ("most", "1"),
            ("hues 1 5", "0"), ("hues 3 5 4 6", "1"),
        )

    def test_all_tied(self):
        desk = desk_of(helpers.all_tied_web(3))
        self.assert_answers(
            desk, ("names 3 2 1", "2"), ("mean 2", "8/3"), ("chance 2", "1/3"), ("size", "1"),
            ("most", "1"), ("pairs 3 2 1", "1-2"), ("lacks 1 2", "tied 1 2"), ("lacks 1", "none"),
            ("hues 1 3 2 1", "none none 0"),
        )

    def test_a_refused_web_turns_nothing(self):
        desk = Desk()
        for text in ("0", "2 1-0", "2 0-1 0-1", "x", "", "61", "2  0-1", "02", "2 0-01", "2 ", " 2"):
            self.assertRaises(NoRow, desk.say, "web " + text)
            self.assertRaises(NoRow, desk.say, "names 1 2")
        desk.say("web 2 0-1")
        for text in ("0", "2 1-0", "3 0-1 0-1", "x", "", "61", "3  0-1", "03", "3 0-01", "3 ", " 3"):
            self.assertRaises(NoRow, desk.say, "web " + text)
            self.assertRaises(NoRow, desk.say, "web")
            self.assertEqual(desk.say("names 1 2"), "0")
            self.assertRaises(NoRow, desk.say, "names 1 2 3")

    def test_a_web_is_the_desks_own_till_the_next_one(self):
        desk = Desk()
        for web in (helpers.row_web(3), helpers.star_web(5), (1, ()), helpers.row_web(60)):
            self.assertEqual(desk.say("web " + web_text(web)), "ok")
            for _ in range(2):
                names = list(range(web[0]))
                self.assertEqual(desk.say("names " + joined(names)), joined(chosen_by(web, names)))
                self.assertRaises(NoRow, desk.say, "names " + joined(names[1:]))

    def test_each_row_without_a_web(self):
        desk = Desk()
        for row in WORDS + ("lacks 0", "names 1", "mean 2", "chance 0", "hues 0", "hues 1 1", "pairs 1"):
            self.assertRaises(NoRow, desk.say, row)
        self.assertEqual(desk.say("web 1"), "ok")
        self.assertEqual(desk.say("size"), "1")


class Refusals(unittest.TestCase):

    def assert_refused(self, desk, error, *rows):
        for row in rows:
            for _ in range(2):
                with self.assertRaises(ApartError, msg=row) as caught:
                    desk.say(row)
                self.assertIs(type(caught.exception), error, row)

    def test_no_such_row(self):
        desk = desk_of(helpers.row_web(2))
        self.assert_refused(
            desk, NoRow, "", " ", "name 1 2", "Names 1 2", "NAMES 1 2", "names,1,2", "names1 2",
            "1 2", "names", "web", "webs 2", "lack", "lacksnone", "ok", "none", "-", "_web", "0",
            "say", "size\n", "size ", " size", "most most", "__init__", "x" * 5000,
        )

    def test_too_few_words_and_too_many(self):
        desk = desk_of(helpers.row_web(3))
        self.assert_refused(
            desk, NoRow, "names 1 2", "names 1 2 3 4", "latest 1 2", "latest", "latest 1 2 3 4",
            "rounds 1 2", "rounds 1 2 3 4", "rounds", "mean", "mean 2 2", "chance", "chance 0 0",
            "size 0", "size 3", "most 0", "most 1 2 3", "pairs", "pairs 1", "pairs 1 2 3", "hues",
            "hues 1", "hues 1 1 2", "hues 1 1 2 3 4", "hues 2 1 2 3 4 5", "hues 2 1 2 3 4 5 6 7",
        )

    def test_numbers_of_many_figures(self):
        desk = desk_of((1, ()))
        for row in ("names {}", "latest {}", "rounds {}", "hues 1 {}"):
            self.assertIn(desk.say(row.format(9999)), ("0", "1"))
        for number in ("10000", "99999", "00000", "1" * 60, "1" * 5000, "0" * 5000, "01", "00", "0007",
                       "+1", "-1", "-0", "--1", "1_0", "1.0", "0x1", "1e3", "\u0661", "\u00b2", "x", ""):
            self.assert_refused(
                desk, NoRow, f"names {number}", f"latest {number}", f"rounds {number}",
                f"lacks {number}", f"mean {number}", f"chance {number}", f"hues {number}",
                f"hues 1 {number}", f"hues {number} 1",
            )
        desk = desk_of(helpers.row_web(2))
        self.assertEqual(desk.say("pairs 9999"), "0-1")
        self.assert_refused(desk, NoRow, "pairs 10000", "pairs 01", "pairs -1", "pairs " + "1" * 5000)

    def test_sets_that_fall_and_houses_that_there_are_not(self):
        desk = desk_of(helpers.row_web(3))
        self.assert_refused(
            desk, NoRow, "lacks 1 0", "lacks 0 0", "lacks 0 2 1", "lacks 2 2", "lacks 3", "lacks 0 3",
            "lacks 0 1 2 3", "lacks 9999", "lacks none", "lacks ", "lacks  0", "lacks -1", "lacks 0,2",
        )

    def test_sides(self):
        desk = desk_of(helpers.row_web(3))
        for sides in (2, 3, 4):
            wanted = fraction_text(mean_rounds(helpers.row_web(3), sides)[0])
            self.assertEqual(desk.say(f"mean {sides}"), wanted)
        self.assert_refused(desk, NoRow, "mean 0", "mean 1", "mean 5", "mean 22", "mean 02", "mean -2", "mean 9999")

    def test_webs_of_too_many_houses(self):
        for many in (5, 6, 7, 60):
            web = helpers.row_web(many)
            desk = desk_of(web)
            if many <= 5:
                self.assertEqual(desk.say("mean 2"), fraction_text(mean_rounds(web, 2)[0]))
            else:
                self.assert_refused(desk, NoRow, "mean 2", "mean 3", "mean 4", "mean 1")
            if many <= 6:
                self.assertEqual(desk.say("chance 3"), fraction_text(chance_in(web, 3)))
                self.assertEqual(desk.say("size"), fraction_text(mean_size(web)))
                self.assertEqual(desk.say("most"), "3")
                self.assert_refused(desk, NoHouse, f"chance {many}")
            else:
                self.assert_refused(desk, NoRow, "chance 3", f"chance {many}", "size", "most")

    def test_no_house(self):
        desk = desk_of(helpers.row_web(3))
        self.assert_refused(desk, NoHouse, "chance 3", "chance 4", "chance 61", "chance 9999")
        self.assert_refused(desk, NoRow, "chance 10000", "chance 03", "chance -1")
        self.assertEqual(desk.say("chance 2"), "2/3")

    def test_no_tie(self):
        self.assert_refused(desk_of((3, ())), NoTie, "pairs")
        self.assert_refused(desk_of((3, ())), NoRow, "pairs 1", "pairs 1 2 3", "pairs ")
        ties = tuple(combinations(range(60), 2))
        desk = desk_of((60, ties[:60]))
        self.assertEqual(desk.say("pairs " + joined(range(60))), "0-1")
        desk = desk_of((60, ties[:61]))
        self.assert_refused(desk, NoTie, "pairs " + joined(range(61)), "pairs" + " 0" * 61)
        self.assert_refused(desk, NoRow, "pairs " + joined(range(60)), "pairs " + joined(range(62)))

    def test_no_hues(self):
        desk = desk_of((1, ()))
        self.assertEqual(desk.say("hues 60 " + joined(range(60))), "0")
        self.assert_refused(
            desk, NoHues, "hues 0", "hues 61 " + joined(range(61)), "hues 61" + " 5" * 61,
            "hues 9999 " + joined(range(9999)),
        )
        self.assert_refused(desk, NoRow, "hues 0 1", "hues 61", "hues 61 " + joined(range(60)))
        desk = desk_of(helpers.row_web(20))
        self.assertEqual(desk.say("hues 3 " + joined(range(60))), joined([0, 1] * 10))
        self.assert_refused(desk, NoHues, "hues 0", "hues 4 " + joined(range(80)))

    def test_no_name(self):
        desk = desk_of(helpers.row_web(4))
        for row, number in (
            ("names 1 1 2 3", 1), ("latest 1 2 3 1", 3), ("rounds 3 2 2 3", 2), ("pairs 5 4 5", 2),
            ("pairs 0 0 0", 1), ("hues 1 1 2 2 2", 2), ("hues 2 1 2 3 4 5 6 7 1", 7),
        ):
            with self.assertRaises(NoName) as caught:
                desk.say(row)
            self.assertEqual(caught.exception.number, number, row)
        self.assert_refused(desk, NoRow, "names 1 1 2", "names 1 1 2 01", "pairs 5 5", "hues 1 1 1 1")


class ByTheFunctions(unittest.TestCase):
    """Each row is held against the plain desk."""

    def assert_alike(self, desk, plain, row):
        wanted = outcome(plain, row)
        self.assertEqual(outcome(desk, row), wanted, row)
        return wanted[0]

    def small_and_many_webs(self):
        small = [web for many in (1, 2, 3) for web in all_webs(many)]
        return small + forms(4)[:6] + forms(5)[:4] + forms(6)[:3] + [helpers.row_web(7)] + many_webs()

    def rows(self, web, dice):
        """Rows of each sort, with just as many words as wanted or about so many."""
        def some(many):
            many = max(0, many + (dice.roll(9) == 0) - (dice.roll(9) == 0))
            numbers = dice.shuffled(range(many + 3))[:many]
            if numbers and dice.roll(6) == 0:
                numbers[dice.roll(many)] = dice.roll(12000)
            if numbers and dice.roll(6) == 0:
                numbers[dice.roll(many)] = numbers[dice.roll(many)]
            return numbers

        for word in ("names", "latest", "rounds"):
            yield joined([word] + some(web[0]))
        yield joined(["pairs"] + some(len(web[1])))
        for hues in (0, 1, 2, 60 // web[0], 60 // web[0] + 1):
            yield joined(["hues", hues] + some(web[0] * hues))
        for of_ten in (0, 1, 4, 10):
            some_houses = [house for house in range(web[0] + 1) if dice.roll(10) < of_ten]
            yield joined(["lacks"] + some_houses)
            yield joined(["lacks"] + some_houses[:-1])
        for row in ("size", "most", f"chance {web[0]}", f"chance {dice.roll(web[0])}", "mean 1",
                    f"mean {dice.roll(3) + 2}", "mean 5"):
            yield row

    def test_each_sort_of_row_of_many_webs_each_twice(self):
        dice = Dice(31)
        desk, plain = Desk(), PlainDesk()
        seen = set()
        for web in self.small_and_many_webs():
            self.assertEqual(self.assert_alike(desk, plain, "web " + web_text(web)), "str")
            for row in self.rows(web, dice):
                for _ in range(2):
                    seen.add(self.assert_alike(desk, plain, row))
        self.assertEqual(seen, {"str", "NoRow", "NoHouse", "NoTie", "NoHues", "NoName"})

    def test_each_set_and_the_names_of_small_webs(self):
        for web in all_webs(3):
            desk = desk_of(web)
            for some in all_sets(range(3)):
                self.assertEqual(desk.say(joined(["lacks"] + some)), joined(lacks_of(web, some) or ["none"]))

    def test_rows_bent_at_any_place_by_any_sign(self):
        plain = PlainDesk()
        plain.say("web 3 0-1 1-2")
        for row in ("names 10 2 30", "latest 1 2 3", "rounds 0 1 2", "lacks 0 2", "lacks", "mean 2",
                    "chance 1", "size", "most", "pairs 9999 1", "hues 1 5 6 7", "hues 0"):
            desk = desk_of(helpers.row_web(3))
            for turned in bent(row, SIGNS):
                self.assert_alike(desk, plain, turned)
            for turned in parts_bent(row):
                self.assert_alike(desk, plain, turned)
        for turned in list(bent("web 3 0-1 1-2", SIGNS)) + list(parts_bent("web 12 0-1 1-2")):
            desk, plain = Desk(), PlainDesk()
            self.assert_alike(desk, plain, turned)
            self.assert_alike(desk, plain, "names 1 2 3")

    def test_rows_of_any_words(self):
        dice = Dice(32)
        words = WORDS + ("web", "none", "", "0", "1", "2", "3", "4", "01", "-1", "9999", "10000", "0-1", "1-2", "2-1")
        webs = ("1", "2 0-1", "3 0-1 1-2", "3", "4 0-1 0-2 0-3", "6 0-1", "7 0-6")
        desk, plain = Desk(), PlainDesk()
        for turn in range(8000):
            row = " ".join(words[dice.roll(len(words))] for _ in range(dice.roll(6)))
            if turn > 50 and dice.roll(12) == 0:
                row = "web " + webs[dice.roll(len(webs))]
            elif dice.roll(2):
                row = " ".join([WORDS[dice.roll(10)]] + [str(dice.roll(5)) for _ in range(dice.roll(6))])
            self.assert_alike(desk, plain, row)

    def test_two_desks_by_turns(self):
        dice = Dice(33)
        pairs = [(Desk(), PlainDesk()) for _ in range(2)]
        for web in forms(3) + forms(4) + forms(7) + forms(8):
            desk, plain = pairs[dice.roll(2)]
            self.assert_alike(desk, plain, "web " + web_text(web))
            for row in self.rows(web, dice):
                for each, model in pairs:
                    self.assert_alike(each, model, row)


if __name__ == "__main__":
    unittest.main()
