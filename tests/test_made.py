"""Pairings and hues: points 15 and 16, and what points 2 and 3 say of them."""

import inspect
import unittest
from itertools import combinations, permutations, product

from fullapart import made as module
from fullapart.errors import ApartError, NoHues, NoName, NoTie
from fullapart.made import hue_web, hues_by, is_full_pairing, is_pairing, pairing_by, web_of_ties
from fullapart.webs import is_web

from tests import helpers
from tests.helpers import Dice, all_sets, all_webs, many_names, many_webs

FAR = 10**69


def webs():
    """All webs of up to four houses, and many of all the forms."""
    return [web for many in (1, 2, 3, 4) for web in all_webs(many)] + many_webs()


def tied_webs():
    """Those of them that have a web of ties, and webs of just sixty ties."""
    return [web for web in webs() if 1 <= len(web[1]) <= 60] + sixty_ties()


def sixty_ties():
    return [
        helpers.ring_web(60),
        (60, ((0, 2),) + helpers.row_web(60)[1]),
        (60, tuple(combinations(range(60), 2))[:60]),
        (12, tuple(combinations(range(12), 2))[:60]),
        (60, tuple(combinations(range(60), 2))[-60:]),
    ]


def webs_and_hues():
    """Webs with numbers of hues, from one to as many as go."""
    for web in webs():
        most = 60 // web[0]
        for hues in sorted({1, 2, 3, most - 1, most}):
            if 1 <= hues <= most:
                yield web, hues


class Interface(unittest.TestCase):

    def test_defined_in_its_file_with_its_arguments(self):
        wanted = {
            "web_of_ties": ["web"],
            "pairing_by": ["web", "names"],
            "is_pairing": ["web", "some"],
            "is_full_pairing": ["web", "some"],
            "hue_web": ["web", "hues"],
            "hues_by": ["web", "hues", "names"],
        }
        for name, arguments in wanted.items():
            function = getattr(module, name)
            self.assertTrue(inspect.isfunction(function), name)
            self.assertEqual(function.__module__, "fullapart.made")
            self.assertEqual(list(inspect.signature(function).parameters), arguments)


class WebOfTies(unittest.TestCase):

    def test_by_hand(self):
        self.assertEqual(web_of_ties((2, ((0, 1),))), (1, ()))
        self.assertEqual(web_of_ties((4, ((0, 1), (2, 3)))), (2, ()))
        self.assertEqual(web_of_ties(helpers.row_web(4)), (3, ((0, 1), (1, 2))))
        self.assertEqual(web_of_ties(helpers.star_web(4)), helpers.all_tied_web(3))
        self.assertEqual(web_of_ties(helpers.all_tied_web(3)), helpers.all_tied_web(3))
        # The ties of the ring of four: (0, 1), (0, 3), (1, 2), (2, 3).
        told = (4, ((0, 1), (0, 2), (1, 3), (2, 3)))
        self.assertEqual(web_of_ties(helpers.ring_web(4)), told)
        # One house is the greater one of the first tie and the lesser one of the second.
        self.assertEqual(web_of_ties((5, ((0, 3), (1, 2), (3, 4)))), (3, ((0, 2),)))

    def test_by_each_two_ties(self):
        for web in tied_webs():
            told = web_of_ties(web)
            self.assertEqual(told, helpers.ties_as_houses(web), web)
            self.assertIs(is_web(told), True)
            self.assertEqual([type(part) for part in told], [int, tuple])
            self.assertEqual({type(part) for tie in told[1] for part in tie} - {int}, set())

    def test_no_tie_where_there_is_none(self):
        for many in (1, 2, 60):
            self.assertRaises(NoTie, web_of_ties, (many, ()))

    def test_sixty_ties_and_more(self):
        for web in sixty_ties():
            self.assertEqual(len(web[1]), 60)
            self.assertEqual(web_of_ties(web)[0], 60)
        for size in (61, 62, 100):
            web = (60, tuple(combinations(range(60), 2))[:size])
            with self.assertRaises(NoTie) as caught:
                web_of_ties(web)
            self.assertIs(type(caught.exception), NoTie)
            self.assertIsInstance(caught.exception, ApartError)
        self.assertRaises(NoTie, web_of_ties, helpers.all_tied_web(60))
        self.assertRaises(NoTie, web_of_ties, helpers.all_tied_web(12))
        self.assertEqual(web_of_ties(helpers.all_tied_web(11))[0], 55)


class Pairings(unittest.TestCase):

    def assert_told(self, web, some):
        before = list(some)
        self.assertIs(is_pairing(web, some), helpers.pairing(some), (web, some))
        self.assertIs(is_full_pairing(web, some), helpers.full_pairing(web, some), (web, some))
        self.assertEqual(some, before)

    def test_by_hand(self):
        web = helpers.row_web(5)
        for some, pairing, full in (
            ([], True, False),
            ([(0, 1)], True, False),
            ([(1, 2)], True, False),
            ([(0, 1), (1, 2)], False, False),
            ([(0, 1), (2, 3)], True, True),
            ([(0, 1), (3, 4)], True, True),
            ([(1, 2), (3, 4)], True, True),
            ([(0, 1), (1, 2), (3, 4)], False, False),
            ([(0, 1), (1, 2), (2, 3), (3, 4)], False, False),
        ):
            self.assertIs(is_pairing(web, some), pairing, some)
            self.assertIs(is_full_pairing(web, some), full, some)

    def test_two_ties_with_a_house_in_common_at_any_place(self):
        web = helpers.all_tied_web(4)
        for some in ([(0, 1), (0, 2)], [(0, 2), (1, 2)], [(0, 1), (1, 3)], [(1, 2), (2, 3)]):
            self.assertIs(is_pairing(web, some), False, some)
            self.assertIs(is_full_pairing(web, some), False, some)
        for some in ([(0, 1), (2, 3)], [(0, 2), (1, 3)], [(0, 3), (1, 2)]):
            self.assertIs(is_pairing(web, some), True, some)
            self.assertIs(is_full_pairing(web, some), True, some)

    def test_the_empty_one(self):
        for web in webs() + sixty_ties():
            self.assertIs(is_pairing(web, []), True)
            self.assertIs(is_full_pairing(web, []), web[1] == ())

    def test_all_sets_of_ties_of_small_webs(self):
        for many in (1, 2, 3, 4):
            for web in all_webs(many):
                for some in all_sets(web[1]):
                    self.assert_told(web, some)

    def test_any_sets_of_ties_of_many_webs(self):
        dice = Dice(15)
        for web in many_webs() + sixty_ties():
            for of_sixty in (1, 5, 20):
                some = [tie for tie in web[1] if dice.roll(60) < of_sixty]
                if len(some) < 200:
                    self.assert_told(web, some)
            taken = helpers.pairing_by_names(web, dice.shuffled(range(len(web[1]))))
            self.assert_told(web, taken)
            if taken:
                taken.pop(dice.roll(len(taken)))
                self.assert_told(web, taken)

    def test_webs_of_more_than_sixty_ties(self):
        web = helpers.all_tied_web(60)
        some = [(house, house + 1) for house in range(0, 60, 2)]
        self.assertIs(is_full_pairing(web, some), True)
        self.assertIs(is_pairing(web, list(web[1])), False)
        self.assertIs(is_full_pairing(web, some[1:]), False)
        self.assertIs(is_full_pairing((60, web[1][:61]), [(0, 5), (1, 2)]), True)


class PairingBy(unittest.TestCase):

    def test_by_hand(self):
        web = helpers.row_web(4)
        for names, told in (
            ([1, 2, 3], [(0, 1), (2, 3)]), ([2, 1, 3], [(1, 2)]), ([3, 2, 1], [(0, 1), (2, 3)]),
            ([-1, -2, -3], [(0, 1), (2, 3)]), ([0, -10**60, 5], [(1, 2)]),
        ):
            self.assertEqual(pairing_by(web, names), told)
        self.assertEqual(pairing_by((2, ((0, 1),)), [7]), [(0, 1)])
        self.assertEqual(pairing_by(helpers.star_web(4), [5, 4, 6]), [(0, 2)])

    def test_going_through_the_ties_by_rising_names(self):
        dice = Dice(16)
        for web in tied_webs():
            for names in many_names(len(web[1]), dice):
                told = pairing_by(web, names)
                self.assertEqual(told, helpers.pairing_by_names(web, names), (web, names))
                self.assertIs(type(told), list)
                self.assertEqual({type(tie) for tie in told}, {tuple})
                self.assertIs(is_full_pairing(web, told), True)
                self.assertTrue(helpers.full_pairing(web, told))

    def test_all_orders_of_small_webs(self):
        for web in all_webs(4):
            if 1 <= len(web[1]) <= 5:
                for names in permutations(range(len(web[1]))):
                    told = pairing_by(web, list(names))
                    self.assertEqual(told, helpers.pairing_by_names(web, names))

    def test_no_tie_ahead_of_no_name(self):
        for web in ((3, ()), (60, tuple(combinations(range(60), 2))[:61])):
            for names in ([], [1, 1], [0] * len(web[1]), list(range(len(web[1])))):
                self.assertRaises(NoTie, pairing_by, web, names)

    def test_alike_names(self):
        for names, number in (([4, 4, 5], 1), ([4, 5, 4], 2), ([5, 4, 4], 2), ([4, 4, 4], 1)):
            for web in (helpers.row_web(4), helpers.star_web(4), helpers.all_tied_web(3)):
                before = list(names)
                with self.assertRaises(NoName) as caught:
                    pairing_by(web, names)
                self.assertEqual(caught.exception.number, number)
                self.assertEqual(names, before)
        for web in sixty_ties():
            with self.assertRaises(NoName) as caught:
                pairing_by(web, list(range(59)) + [17])
            self.assertEqual(caught.exception.number, 59)


class HueWeb(unittest.TestCase):

    def test_by_hand(self):
        self.assertEqual(hue_web((1, ()), 1), (1, ()))
        self.assertEqual(hue_web((1, ()), 3), helpers.all_tied_web(3))
        self.assertEqual(hue_web((2, ()), 2), (4, ((0, 1), (2, 3))))
        self.assertEqual(hue_web((2, ((0, 1),)), 2), (4, ((0, 1), (0, 2), (1, 3), (2, 3))))
        web = (3, ((0, 2),))
        told = (6, ((0, 1), (0, 4), (1, 5), (2, 3), (4, 5)))
        self.assertEqual(hue_web(web, 2), told)
        self.assertEqual(hue_web(web, 1), web)

    def test_by_each_two_houses_of_it(self):
        for web, hues in webs_and_hues():
            told = hue_web(web, hues)
            self.assertEqual(told, helpers.house_and_hue(web, hues), (web, hues))
            self.assertIs(is_web(told), True)
            self.assertEqual([type(part) for part in told], [int, tuple])

    def test_no_hues(self):
        for web in webs():
            most = 60 // web[0]
            for hues in (0, -1, -2, -60, -FAR, most + 1, most + 2, 61, 10**6, FAR):
                with self.assertRaises(NoHues) as caught:
                    hue_web(web, hues)
                self.assertIs(type(caught.exception), NoHues)
                self.assertIsInstance(caught.exception, ApartError)
                for names in ([], [3, 3], list(range(60))):
                    self.assertRaises(NoHues, hues_by, web, hues, names)

    def test_just_sixty(self):
        for many, hues in ((1, 60), (60, 1), (2, 30), (30, 2), (12, 5)):
            self.assertEqual(hue_web(helpers.row_web(many), hues)[0], 60)
            self.assertRaises(NoHues, hue_web, helpers.row_web(many), hues + 1)
        self.assertRaises(NoHues, hue_web, (61, ()), 1)


class HuesBy(unittest.TestCase):

    def test_by_hand(self):
        web = helpers.row_web(3)
        self.assertEqual(hues_by(web, 1, [1, 2, 3]), [0, None, 0])
        self.assertEqual(hues_by(web, 1, [2, 1, 3]), [None, 0, None])
        self.assertEqual(hues_by(web, 2, [1, 2, 3, 4, 5, 6]), [0, 1, 0])
        self.assertEqual(hues_by(web, 2, [6, 5, 4, 3, 2, 1]), [1, 0, 1])
        # House 0 takes hue 0 and house 2 hue 1, so none is left for house 1.
        self.assertEqual(hues_by(web, 2, [1, 5, 3, 4, 6, 2]), [0, None, 1])
        self.assertEqual(hues_by((1, ()), 3, [5, -5, 0]), [1])

    def test_going_through_houses_and_hues_by_rising_names(self):
        dice = Dice(17)
        for web, hues in webs_and_hues():
            for names in many_names(web[0] * hues, dice)[::3]:
                told = hues_by(web, hues, names)
                self.assertEqual(told, helpers.hues_by_names(web, hues, names), (web, hues, names))
                self.assertIs(type(told), list)
                self.assertEqual({type(hue) for hue in told} - {int, type(None)}, set())
                for one, other in web[1]:
                    self.assertTrue(told[one] is None or told[one] != told[other])
                if hues > max(len(others) for others in helpers.near(web)):
                    self.assertNotIn(None, told)

    def test_all_orders_of_small_webs(self):
        for many, hues in ((1, 5), (2, 2), (3, 1), (3, 2)):
            for web in all_webs(many):
                for names in permutations(range(many * hues)):
                    told = hues_by(web, hues, list(names))
                    self.assertEqual(told, helpers.hues_by_names(web, hues, names))

    def test_alike_names(self):
        web = helpers.row_web(3)
        for names in product((0, 1, 2), repeat=3):
            number = helpers.first_alike(list(names))
            if number is not None:
                with self.assertRaises(NoName) as caught:
                    hues_by(web, 1, list(names))
                self.assertEqual(caught.exception.number, number)
        with self.assertRaises(NoName) as caught:
            hues_by(helpers.row_web(2), 30, list(range(58)) + [FAR, FAR])
        self.assertEqual(caught.exception.number, 59)


class NothingIsKept(unittest.TestCase):

    def test_what_is_handed_in_stays(self):
        dice = Dice(18)
        for web in tied_webs():
            names = dice.shuffled(range(len(web[1])))
            before = list(names)
            pairing_by(web, names)
            self.assertEqual(names, before)
        for web, hues in webs_and_hues():
            names = dice.shuffled(range(web[0] * hues))
            before = list(names)
            hues_by(web, hues, names)
            self.assertEqual(names, before)

    def test_told_lists_are_the_askers_own(self):
        web = helpers.row_web(4)
        names = [1, 2, 3]
        first, second = pairing_by(web, names), pairing_by(web, names)
        self.assertIsNot(first, second)
        first.clear()
        self.assertEqual(second, [(0, 1), (2, 3)])
        self.assertEqual(pairing_by(web, names), [(0, 1), (2, 3)])
        names[:] = [2, 1, 3]
        self.assertEqual(second, [(0, 1), (2, 3)])
        self.assertEqual(pairing_by(web, names), [(1, 2)])
        some = pairing_by(web, names)
        self.assertIs(is_full_pairing(web, some), True)
        some.insert(0, (0, 1))
        self.assertIs(is_pairing(web, some), False)
        hues, again = hues_by(web, 1, [1, 2, 3, 4]), hues_by(web, 1, [1, 2, 3, 4])
        self.assertIsNot(hues, again)
        hues[0] = "x"
        self.assertEqual(again, [0, None, 0, None])
        self.assertEqual(hues_by(web, 1, [1, 2, 3, 4]), [0, None, 0, None])

    def test_a_refusal_turns_nothing(self):
        web = helpers.row_web(3)
        self.assertRaises(NoName, pairing_by, web, [1, 1])
        self.assertRaises(NoHues, hues_by, web, 0, [])
        self.assertRaises(NoTie, pairing_by, (3, ()), [])
        self.assertEqual(pairing_by(web, [2, 1]), [(1, 2)])
        self.assertEqual(hues_by(web, 1, [2, 1, 3]), [None, 0, None])


if __name__ == "__main__":
    unittest.main()
