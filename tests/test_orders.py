"""Over all orders: points 13 and 14, and what points 2 and 3 say of them."""

import inspect
import unittest
from fractions import Fraction

from fullapart import errors
from fullapart import orders as module
from fullapart.names import latest_by
from fullapart.orders import chance_in, mean_gone, mean_latest, mean_size, most_latest

from tests import helpers
from tests.helpers import all_webs, forms, is_fraction, mean_over, rows_over_all_orders

FAR = 10**69


def webs():
    """All webs of up to four houses, and the forms of five and six."""
    return [web for many in (1, 2, 3, 4) for web in all_webs(many)] + forms(5) + forms(6)


class Interface(unittest.TestCase):

    def test_defined_in_its_file_with_its_arguments(self):
        wanted = {
            "chance_in": ["web", "house"],
            "mean_size": ["web"],
            "mean_latest": ["web"],
            "mean_gone": ["web"],
            "most_latest": ["web"],
        }
        for name, arguments in wanted.items():
            function = getattr(module, name)
            self.assertTrue(inspect.isfunction(function), name)
            self.assertEqual(function.__module__, "fullapart.orders")
            self.assertEqual(list(inspect.signature(function).parameters), arguments)


class ByHand(unittest.TestCase):

    def assert_told(self, web, chances, size, latest, gone, most):
        self.assertEqual([chance_in(web, house) for house in range(web[0])], chances)
        self.assertEqual(mean_size(web), size)
        self.assertEqual(mean_latest(web), latest)
        self.assertEqual(mean_gone(web), gone)
        self.assertEqual(most_latest(web)[0], most)

    def test_one_house(self):
        self.assert_told((1, ()), [(1, 1)], (1, 1), (1, 1), (0, 1), 1)
        self.assertEqual(most_latest((1, ())), (1, [0]))

    def test_no_ties(self):
        for many in (2, 3, 6):
            self.assert_told((many, ()), [(1, 1)] * many, (many, 1), (1, 1), (0, 1), 1)

    def test_two_tied(self):
        self.assert_told((2, ((0, 1),)), [(1, 2)] * 2, (1, 1), (1, 1), (1, 1), 1)

    def test_all_tied(self):
        for many in (3, 6):
            ties = many * (many - 1) // 2
            web = helpers.all_tied_web(many)
            self.assert_told(web, [(1, many)] * many, (1, 1), (1, 1), (ties, 1), 1)

    def test_a_row_of_three(self):
        # Two rounds in the orders 0, 1, 2 and 2, 1, 0; the house between is decided in the first.
        web = helpers.row_web(3)
        self.assert_told(web, [(2, 3), (1, 3), (2, 3)], (5, 3), (4, 3), (2, 1), 2)
        self.assertIn(most_latest(web), [(2, [0, 1, 2]), (2, [2, 1, 0])])

    def test_a_star_of_five(self):
        # House 0 is decided in the first round, whatever the names; a second one is
        # needed for those behind it, where its name is neither the least nor the last.
        web = helpers.star_web(5)
        chances = [(1, 5)] + [(4, 5)] * 4
        self.assert_told(web, chances, (17, 5), (8, 5), (4, 1), 2)

    def test_longer_rows(self):
        # In a row of four one tie stays behind the first round where the names of 0, 1, 2, 3
        # rise or fall.
        self.assertEqual(mean_gone(helpers.row_web(4)), (35, 12))
        most = [most_latest(helpers.row_web(many))[0] for many in (4, 5, 6)]
        self.assertEqual(most, [2, 3, 3])
        self.assertIn(most_latest(helpers.row_web(5))[1], ([0, 1, 2, 3, 4], [4, 3, 2, 1, 0]))


class BySecondWays(unittest.TestCase):

    def test_the_chance_that_a_house_is_chosen(self):
        for web in webs():
            for house in range(web[0]):
                told = chance_in(web, house)
                wanted = mean_over([rows[house][0] for rows in rows_over_all_orders(web)])
                self.assertEqual(told, wanted, (web, house))
                self.assertTrue(is_fraction(told))

    def test_the_mean_size(self):
        for web in webs():
            told = mean_size(web)
            sizes = [sum(chosen for chosen, _ in rows) for rows in rows_over_all_orders(web)]
            self.assertEqual(told, mean_over(sizes), web)
            self.assertTrue(is_fraction(told))
            chances = [Fraction(*chance_in(web, house)) for house in range(web[0])]
            self.assertEqual(Fraction(*told), sum(chances))

    def test_the_mean_number_of_rounds(self):
        for web in webs():
            told = mean_latest(web)
            last = [max(number for _, number in rows) for rows in rows_over_all_orders(web)]
            self.assertEqual(told, mean_over(last), web)
            self.assertTrue(is_fraction(told))

    def test_the_mean_number_of_ties_that_go_first(self):
        for web in webs():
            gone = [
                sum(1 in (rows[one][1], rows[other][1]) for one, other in web[1])
                for rows in rows_over_all_orders(web)
            ]
            told = mean_gone(web)
            self.assertEqual(told, mean_over(gone), web)
            self.assertTrue(is_fraction(told))

    def test_the_most_rounds_and_names_that_need_them(self):
        for web in webs():
            told = most_latest(web)
            self.assertEqual((type(told), len(told)), (tuple, 2))
            number, names = told
            self.assertEqual((type(number), type(names)), (int, list))
            most = max(max(last for _, last in rows) for rows in rows_over_all_orders(web))
            self.assertEqual(number, most, web)
            self.assertTrue(all(type(name) is int for name in names))
            self.assertEqual(sorted(names), list(range(web[0])), web)
            self.assertEqual(latest_by(web, names), number, web)

    def test_chosen_in_as_many_orders_as_it_has_ties_and_itself(self):
        for web in webs():
            for house, others in enumerate(helpers.near(web)):
                chance = Fraction(*chance_in(web, house))
                self.assertGreaterEqual(chance, Fraction(1, len(others) + 1), (web, house))

    def test_at_least_half_of_the_ties_go_in_the_first_round(self):
        for web in webs():
            self.assertGreaterEqual(2 * Fraction(*mean_gone(web)), len(web[1]), web)


class Refusals(unittest.TestCase):

    def test_no_house(self):
        for web in ((1, ()), (2, ((0, 1),)), helpers.ring_web(6)):
            for house in (-1, -2, -web[0], web[0], web[0] + 1, 61, FAR, -FAR):
                with self.assertRaises(errors.NoHouse) as caught:
                    chance_in(web, house)
                self.assertIs(type(caught.exception), errors.NoHouse)
                self.assertIsInstance(caught.exception, errors.ApartError)

    def test_a_refusal_turns_nothing(self):
        web = helpers.row_web(3)
        for house in (3, -1, 3):
            self.assertRaises(errors.NoHouse, chance_in, web, house)
        self.assertEqual([chance_in(web, house) for house in range(3)], [(2, 3), (1, 3), (2, 3)])


class NothingIsKept(unittest.TestCase):

    def test_told_names_are_the_askers_own(self):
        web = helpers.row_web(5)
        first, second = most_latest(web), most_latest(web)
        self.assertIsNot(first[1], second[1])
        names = list(second[1])
        first[1].reverse()
        first[1][0] = "x"
        first[1].pop()
        self.assertEqual(second, (3, names))
        self.assertEqual(most_latest(web), (3, names))
        self.assertEqual(latest_by(web, second[1]), 3)

    def test_one_web_does_not_turn_another(self):
        first, second = helpers.row_web(4), helpers.star_web(4)
        told = [mean_size(web) for web in (first, second, first, second)]
        self.assertEqual(told[:2], told[2:])
        self.assertNotEqual(told[0], told[1])

    def test_somewhat_beyond_six_houses_is_no_error(self):
        web = helpers.row_web(7)
        self.assertEqual(most_latest(web)[0], 4)
        for told in (chance_in(web, 6), mean_size(web), mean_latest(web), mean_gone(web)):
            self.assertEqual(len(told), 2)


if __name__ == "__main__":
    unittest.main()
