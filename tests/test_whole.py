"""What points 1 to 3 say of the whole program, one part held against another."""

import os
import subprocess
import sys
import unittest
from fractions import Fraction
from importlib import import_module
from pathlib import Path

from fullapart.desk import Desk
from fullapart.draws import is_run, run_by
from fullapart.errors import ApartError, NoHues, NoTie
from fullapart.made import hue_web, hues_by, is_full_pairing, pairing_by, web_of_ties
from fullapart.means import is_means, mean_rounds
from fullapart.names import chosen_by, is_rounds, latest_by, rounds_by
from fullapart.orders import chance_in, mean_gone, most_latest
from fullapart.texts import read_fraction, read_set, read_web, show_fraction, show_set, show_web
from fullapart.village import Village
from fullapart.webs import is_apart, is_full, is_web, lacks_of, tied_to

from tests import helpers
from tests.helpers import Dice, forms, many_names, many_webs, set_of_village

TOP = Path(__file__).resolve().parent.parent

INTERFACE = {
    "errors": "ApartError NoHouse NoTie NoSet NoHues NoStep NoText NoRow NoName",
    "webs": "is_web tied_to is_apart is_full lacks_of",
    "names": "chosen_by rounds_by latest_by is_rounds",
    "draws": "run_by is_run",
    "means": "chance_behind chance_of mean_rounds is_means",
    "orders": "chance_in mean_size mean_latest mean_gone most_latest",
    "made": "web_of_ties pairing_by is_pairing is_full_pairing hue_web hues_by",
    "village": "Village",
    "texts": "show_web show_set show_fraction read_web read_set read_fraction",
    "desk": "Desk",
}

# One row of answers out of each part of the program.
A_TALK = """
from fullapart.desk import Desk
from fullapart.village import Village
from tests.helpers import Dice, many_names, many_webs
dice, desk, told = Dice(3), Desk(), []
for row in ("web 5 0-1 0-4 1-2 2-3 3-4", "names 9 3 7 1 5", "rounds 9 3 7 1 5", "mean 3", "size",
            "chance 2", "most", "pairs 5 1 4 2 3", "hues 2 1 3 5 7 9 0 2 4 6 8", "lacks 0 2"):
    told.append(desk.say(row))
village = Village()
for name in many_names(30, dice)[4]:
    village.come(name)
for one in range(30):
    for other in range(one):
        if dice.roll(4) == 0:
            village.tie(one, other)
while village.waiting():
    way = village.waiting()[dice.roll(len(village.waiting()))]
    told.append((way, village.step(*way), village.chosen(), village.count()))
print(told)
"""


class Interface(unittest.TestCase):

    def test_each_name_is_defined_in_its_file(self):
        for file, names in INTERFACE.items():
            module = import_module("fullapart." + file)
            for name in names.split():
                self.assertEqual(getattr(module, name).__module__, module.__name__, name)


class OneSetByAllWays(unittest.TestCase):
    """By names, by rounds, by letters, at the desk: it is one and the same set."""

    def test_it_is_one_set(self):
        dice = Dice(41)
        for web in many_webs():
            for names in many_names(web[0], dice)[::3]:
                chosen = chosen_by(web, names)
                rows = rounds_by(web, names)
                self.assertEqual(chosen, [house for house, row in enumerate(rows) if row[0]])
                self.assertIs(is_rounds(web, names, rows), True)
                self.assertEqual(latest_by(web, names), max(number for _, number in rows))
                self.assertEqual((is_apart(web, chosen), is_full(web, chosen)), (True, True))
                self.assertIsNone(lacks_of(web, chosen))

    def test_it_is_what_a_village_comes_to(self):
        dice = Dice(42)
        for web in many_webs():
            if len(web[1]) < 200:
                names = many_names(web[0], dice)[dice.roll(8)]
                village = Village()
                # Others stand between, and fall with all that is under way from them.
                passing = [village.come(10**65 - at if at & 1 else at - 10**65) for at in range(6)]
                numbers = [village.come(name) for name in names]
                for one, other in dice.shuffled(web[1]):
                    village.tie(numbers[one], numbers[other])
                for house in passing:
                    village.tie(house, numbers[dice.roll(len(numbers))])
                for _ in range(20):
                    if village.waiting():
                        village.step(*village.waiting()[dice.roll(len(village.waiting()))])
                for house in passing:
                    village.fall(house)
                while village.waiting():
                    village.step(*village.waiting()[dice.roll(len(village.waiting()))])
                wanted = [numbers[house] for house in chosen_by(web, names)]
                self.assertEqual(village.chosen(), wanted)
                self.assertEqual(set_of_village(village), wanted)

    def test_by_its_own_names_as_draws_it_is_one_run(self):
        # Draws that are the names in each round choose the set by names.
        dice = Dice(43)
        for web in many_webs():
            names = many_names(web[0], dice)[0]
            rounds, left = run_by(web, [names] * web[0])
            self.assertEqual(left, [])
            self.assertEqual(sorted(sum([chosen for chosen, _ in rounds], [])), chosen_by(web, names))
            self.assertEqual(len(rounds), latest_by(web, names))
            self.assertIs(is_run(web, rounds, left), True)


class OfWebsThatAreMade(unittest.TestCase):

    def test_the_program_takes_them_as_any_web(self):
        dice = Dice(44)
        for web in [web for many in range(2, 7) for web in forms(many)]:
            made = [hue_web(web, hues) for hues in (1, 2)] + ([web_of_ties(web)] if web[1] else [])
            for one in made:
                self.assertIs(is_web(one), True)
                self.assertEqual(read_web(show_web(one)), one)
                names = dice.shuffled(range(one[0]))
                self.assertIsNone(lacks_of(one, chosen_by(one, names)))
                self.assertEqual([tied_to(one, house) for house in range(one[0])], helpers.near(one))

    def test_a_full_pairing_and_hues_that_are_enough(self):
        dice = Dice(45)
        for web in [web for many in range(1, 8) for web in forms(many)]:
            if web[1]:
                names = dice.shuffled(range(len(web[1])))
                self.assertIs(is_full_pairing(web, pairing_by(web, names)), True)
            hues = 1 + max(len(others) for others in helpers.near(web))
            told = hues_by(web, hues, dice.shuffled(range(web[0] * hues)))
            self.assertNotIn(None, told)
            self.assertTrue(all(told[one] != told[other] for one, other in web[1]))


class OverAllOrdersAndInTheMean(unittest.TestCase):

    def test_chances_and_ties_of_the_first_round(self):
        for web in forms(5):
            for house, others in enumerate(helpers.near(web)):
                self.assertGreaterEqual(Fraction(*chance_in(web, house)), Fraction(1, len(others) + 1))
            self.assertGreaterEqual(2 * Fraction(*mean_gone(web)), len(web[1]))
            number, names = most_latest(web)
            self.assertEqual(latest_by(web, names), number)

    def test_the_table_of_means_is_right_and_no_other(self):
        for web in forms(4):
            mean, rows = mean_rounds(web, 2)
            self.assertIs(is_means(web, 2, rows), True)
            turned = [(left, (over + (left != ()), under)) for left, (over, under) in rows]
            self.assertIs(is_means(web, 2, turned), False)
            self.assertEqual(read_fraction(show_fraction(mean)), mean)


class NothingHangsOnAnythingElse(unittest.TestCase):

    def talk(self, seed):
        environment = dict(os.environ, PYTHONHASHSEED=seed, PYTHONPATH=str(TOP))
        run = subprocess.run(
            [sys.executable, "-c", A_TALK], env=environment, cwd="/", text=True,
            stdout=subprocess.PIPE, check=True,
        )
        return run.stdout

    def test_one_run_is_as_another(self):
        first = self.talk("1")
        self.assertGreater(len(first), 1000)
        self.assertEqual(first, self.talk("2"))
        self.assertEqual(first, self.talk("977"))

    def test_one_part_turns_nothing_of_another(self):
        web = helpers.ring_web(5)
        desks = [Desk(), Desk()]
        village, other = Village(), Village()
        desks[0].say("web " + show_web(web))
        for name in range(5):
            village.come(name)
        desks[1].say("web 1")
        self.assertEqual(other.houses(), [])
        self.assertEqual(other.come(0), 0)
        self.assertEqual(desks[0].say("size"), "2")
        self.assertEqual(desks[1].say("size"), "1")
        self.assertEqual(village.count(), 0)

    def test_numbers_of_seventy_figures(self):
        far = 10**70 - 1
        web = helpers.row_web(3)
        self.assertEqual(chosen_by(web, [far, -far, far - 1]), [1])
        self.assertEqual(pairing_by(web, [far, far - 1]), [(1, 2)])
        self.assertEqual(hues_by(web, 1, [far, -far, 0]), [None, 0, None])
        self.assertRaises(NoHues, hue_web, web, far)
        self.assertRaises(NoHues, hue_web, web, -far)
        village = Village()
        self.assertEqual([village.come(name) for name in (far, -far, far - 1)], [0, 1, 2])
        village.tie(0, 2)
        self.assertEqual(village.waiting(), [(2, 0)])
        self.assertEqual(village.houses(), [(0, far), (1, -far), (2, far - 1)])
        self.assertRaises(ApartError, village.fall, far)

    def test_refused_things_turn_nothing_handed_in(self):
        names, hues = [1, 1], [5] * 4
        web = helpers.row_web(3)
        self.assertRaises(ApartError, pairing_by, web, names)
        self.assertRaises(ApartError, hues_by, (2, ()), 2, hues)
        self.assertRaises(NoTie, web_of_ties, (2, ()))
        self.assertEqual((names, hues), ([1, 1], [5] * 4))
        self.assertEqual(read_set(show_set([0, 2])), [0, 2])


if __name__ == "__main__":
    unittest.main()
