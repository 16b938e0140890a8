"""By names: points 6 and 7, and what points 2 and 3 say of them."""

import inspect
import unittest
from itertools import permutations, product

from fullapart import names as module
from fullapart.errors import ApartError, NoName
from fullapart.names import chosen_by, is_rounds, latest_by, rounds_by

from tests import helpers
from tests.helpers import Dice, all_webs, many_names, many_webs

FAR = 10**69


def webs_and_names():
    """Each small web with each order of names, and many webs with many names."""
    for many in (1, 2, 3, 4):
        for web in all_webs(many):
            for names in permutations(range(many)):
                yield web, list(names)
    dice = Dice(6)
    for web in many_webs():
        for names in many_names(web[0], dice):
            yield web, names


class Interface(unittest.TestCase):

    def test_defined_in_its_file_with_its_arguments(self):
        wanted = {
            "chosen_by": ["web", "names"],
            "rounds_by": ["web", "names"],
            "latest_by": ["web", "names"],
            "is_rounds": ["web", "names", "rows"],
        }
        for name, arguments in wanted.items():
            function = getattr(module, name)
            self.assertTrue(inspect.isfunction(function), name)
            self.assertEqual(function.__module__, "fullapart.names")
            self.assertEqual(list(inspect.signature(function).parameters), arguments)


class ByHand(unittest.TestCase):

    def assert_told(self, web, names, chosen, rows):
        self.assertEqual(chosen_by(web, names), chosen)
        self.assertEqual(rounds_by(web, names), rows)
        self.assertEqual(latest_by(web, names), max(number for _, number in rows))
        self.assertIs(is_rounds(web, names, rows), True)

    def test_one_house(self):
        for name in (0, -3, 7, 10**60 - 1):
            self.assert_told((1, ()), [name], [0], [(True, 1)])

    def test_no_ties(self):
        self.assert_told((3, ()), [5, -2, 9], [0, 1, 2], [(True, 1)] * 3)

    def test_two_tied(self):
        web = (2, ((0, 1),))
        self.assert_told(web, [1, 2], [0], [(True, 1), (False, 1)])
        self.assert_told(web, [2, 1], [1], [(False, 1), (True, 1)])
        self.assert_told(web, [-1, -2], [1], [(False, 1), (True, 1)])
        self.assert_told(web, [10**59 + 1, 10**59], [1], [(False, 1), (True, 1)])

    def test_a_row_with_rising_names(self):
        self.assert_told(
            helpers.row_web(5), [1, 2, 3, 4, 5], [0, 2, 4],
            [(True, 1), (False, 1), (True, 2), (False, 2), (True, 3)],
        )

    def test_a_long_row(self):
        web = helpers.row_web(60)
        self.assertEqual(latest_by(web, list(range(60))), 30)
        self.assertEqual(chosen_by(web, list(range(60))), list(range(0, 60, 2)))
        self.assertEqual(latest_by(web, list(range(60, 0, -1))), 30)
        self.assertEqual(rounds_by(web, list(range(60)))[58:], [(True, 30), (False, 30)])

    def test_a_star(self):
        web = helpers.star_web(4)
        self.assert_told(web, [0, 1, 2, 3], [0], [(True, 1)] + [(False, 1)] * 3)
        self.assert_told(web, [5, 7, 2, 9], [1, 2, 3], [(False, 1), (True, 2), (True, 1), (True, 2)])

    def test_all_tied(self):
        rows = [(False, 1), (False, 1), (True, 1), (False, 1)]
        self.assert_told(helpers.all_tied_web(4), [3, 0, -6, 8], [2], rows)

    def test_out_in_the_first_round_in_which_it_may_be(self):
        # House 3 is tied to 0, chosen in round 1, and to 2, chosen in round 2.
        web = (4, ((0, 1), (0, 3), (1, 2), (2, 3)))
        rows = [(True, 1), (False, 1), (True, 2), (False, 1)]
        self.assert_told(web, [1, 2, 3, 4], [0, 2], rows)

    def test_chosen_behind_the_last_of_those_out(self):
        # House 4 is tied to 1, out in round 1, and to 3, out in round 2.
        web = (5, ((0, 1), (1, 2), (1, 4), (2, 3), (3, 4)))
        rows = [(True, 1), (False, 1), (True, 2), (False, 2), (True, 3)]
        self.assert_told(web, [1, 2, 3, 4, 5], [0, 2, 4], rows)


class BySecondWays(unittest.TestCase):

    def test_the_set_is_what_going_through_by_rising_names_picks(self):
        for web, names in webs_and_names():
            told = chosen_by(web, names)
            self.assertEqual(told, helpers.set_by_names(web, names), (web, names))
            self.assertIs(type(told), list)
            self.assertTrue(all(type(house) is int for house in told))

    def test_the_set_is_apart_and_full(self):
        for web, names in webs_and_names():
            told = chosen_by(web, names)
            self.assertTrue(helpers.apart(web, told), (web, names))
            self.assertTrue(helpers.full(web, told), (web, names))

    def test_the_rounds_are_those_gone_through_one_by_one(self):
        for web, names in webs_and_names():
            rows = rounds_by(web, names)
            self.assertEqual(rows, helpers.rounds_by_names(web, names), (web, names))
            self.assertIs(type(rows), list)
            for row in rows:
                self.assertIs(type(row), tuple)
                self.assertEqual([type(part) for part in row], [bool, int])

    def test_how_many_rounds(self):
        for web, names in webs_and_names():
            told = latest_by(web, names)
            rows = helpers.rounds_by_names(web, names)
            self.assertEqual(told, max(number for _, number in rows), (web, names))
            self.assertIs(type(told), int)

    def test_the_told_rounds_are_right_by_the_neighbours_rows_alone(self):
        for web, names in webs_and_names():
            rows = rounds_by(web, names)
            self.assertTrue(helpers.right_rows(web, names, rows), (web, names))
            self.assertIs(is_rounds(web, names, rows), True)

    def test_names_of_sixty_figures_that_differ_at_the_end(self):
        web = helpers.row_web(4)
        names = [10**59 + 3, 10**59 + 2, 10**59 + 1, 10**59]
        self.assertEqual(chosen_by(web, names), [1, 3])
        self.assertEqual(chosen_by(web, [-name for name in names]), [0, 2])
        names = [9 * 10**69 + 1, 9 * 10**69, -9 * 10**69, -9 * 10**69 - 1]
        self.assertEqual(chosen_by(web, names), [1, 3])

    def test_somewhat_beyond_sixty_houses_is_no_error(self):
        web, names = helpers.row_web(61), list(range(61))
        chosen_by(web, names)
        latest_by(web, names)
        is_rounds(web, names, rounds_by(web, names))


class WrongRows(unittest.TestCase):

    def test_each_list_of_rows_of_small_webs(self):
        rows_of_one = list(product((True, False), (-1, 0, 1, 2, 3)))
        for many in (1, 2, 3):
            for web in all_webs(many):
                for names in permutations(range(many)):
                    right = helpers.rounds_by_names(web, list(names))
                    for rows in product(rows_of_one, repeat=many):
                        told = is_rounds(web, list(names), list(rows))
                        self.assertIs(told, list(rows) == right)

    def test_one_row_that_is_not_right(self):
        dice = Dice(7)
        for web in many_webs():
            names = many_names(web[0], dice)[dice.roll(8)]
            right = helpers.rounds_by_names(web, names)
            for house, (chosen, number) in enumerate(right):
                wrong = [(not chosen, number), (chosen, number + 1), (chosen, number - 1)]
                wrong += [(chosen, at) for at in (0, -1, -number, FAR, -FAR, number + 10**60)]
                for row in wrong:
                    if row != right[house]:
                        rows = right[:house] + [row] + right[house + 1:]
                        self.assertIs(is_rounds(web, names, rows), False, (web, names, rows))

    def test_more_rows_that_are_not_right(self):
        dice = Dice(8)
        for web in many_webs():
            for names in many_names(web[0], dice):
                right = helpers.rounds_by_names(web, names)
                rows = [
                    (chosen != (dice.roll(4) == 0), number + dice.roll(3) // 2)
                    for chosen, number in right
                ]
                self.assertIs(is_rounds(web, names, rows), rows == right)
                turned = [(not chosen, number) for chosen, number in right]
                self.assertIs(is_rounds(web, names, turned), False)
                later = [(chosen, number + 1) for chosen, number in right]
                self.assertIs(is_rounds(web, names, later), False)
                self.assertIs(is_rounds(web, names, right), True)

    def test_wrong_rows_that_hold_to_one_another(self):
        # All but house 0 are right by the rows of the others as they stand.
        web, names = helpers.row_web(4), [0, 1, 2, 3]
        self.assertIs(is_rounds(web, names, [(False, 0), (True, 1), (False, 1), (True, 2)]), False)
        self.assertIs(is_rounds(web, names, [(True, 5), (False, 5), (True, 6), (False, 6)]), False)
        self.assertIs(is_rounds(web, names, [(True, 0), (False, 0), (True, 1), (False, 1)]), False)
        self.assertIs(is_rounds(web, names, [(True, 1), (False, 1), (True, 2), (False, 2)]), True)

    def test_rows_of_other_names(self):
        web = helpers.row_web(3)
        rows = rounds_by(web, [1, 2, 3])
        self.assertIs(is_rounds(web, [1, 2, 3], rows), True)
        self.assertIs(is_rounds(web, [3, 2, 1], rows), False)
        self.assertIs(is_rounds(web, [2, 1, 3], rows), False)


class AlikeNames(unittest.TestCase):

    def assert_refused(self, web, names, number):
        before = list(names)
        rows = [(True, 1)] * web[0]
        for call in (
            lambda: chosen_by(web, names),
            lambda: rounds_by(web, names),
            lambda: latest_by(web, names),
            lambda: is_rounds(web, names, rows),
            lambda: is_rounds(web, names, [(False, -1)] * web[0]),
        ):
            with self.assertRaises(NoName) as caught:
                call()
            self.assertIs(type(caught.exception), NoName)
            self.assertIsInstance(caught.exception, ApartError)
            self.assertEqual(caught.exception.number, number, names)
            self.assertIs(type(caught.exception.number), int)
        self.assertEqual(names, before)
        self.assertEqual(rows, [(True, 1)] * web[0])

    def test_the_first_house_whose_name_stood_ahead(self):
        for names, number in (
            ([5, 5], 1), ([0, 0], 1), ([-1, -1], 1), ([1, 2, 1], 2), ([2, 1, 1], 2),
            ([1, 2, 2, 1], 2), ([1, 2, 1, 2], 2), ([3, 1, 2, 1, 3], 3), ([4, 4, 4, 4], 1),
            ([9, 8, 7, 6, 9], 4), ([10**60 - 1, 3, 10**60 - 1], 2), ([-FAR, FAR, -FAR], 2),
        ):
            self.assert_refused(helpers.bare_web(len(names)), names, number)
            self.assert_refused(helpers.row_web(len(names)), names, number)
            self.assert_refused(helpers.all_tied_web(len(names)), names, number)

    def test_all_small_lists_of_names(self):
        for many in (2, 3, 4):
            for names in product(range(-1, many - 1), repeat=many):
                number = helpers.first_alike(list(names))
                if number is not None:
                    self.assert_refused(helpers.ring_web(4) if many == 4 else helpers.row_web(many),
                                        list(names), number)

    def test_of_sixty_houses(self):
        names = list(range(60))
        for first, second in ((0, 59), (58, 59), (0, 1), (17, 41)):
            alike = list(names)
            alike[second] = alike[first]
            self.assert_refused(helpers.row_web(60), alike, second)

    def test_names_that_are_not_alike(self):
        web = helpers.all_tied_web(4)
        for names in ([-1, -2, 1, 2], [0, 2**61 - 1, -(2**61 - 1), 2**61], [FAR, FAR + 1, -FAR, 0]):
            self.assertEqual(chosen_by(web, names), [names.index(min(names))])

    def test_refused_ahead_of_wrong_rows(self):
        web = helpers.row_web(2)
        for rows in ([(True, 1), (False, 1)], [(False, 7), (False, 7)], [(True, FAR), (True, 0)]):
            self.assertRaises(NoName, is_rounds, web, [4, 4], rows)

    def test_a_refusal_turns_nothing(self):
        web, names = helpers.row_web(3), [3, 1, 3]
        self.assertRaises(NoName, chosen_by, web, names)
        names[2] = 4
        self.assertEqual(chosen_by(web, names), [1])
        self.assertRaises(NoName, chosen_by, web, [3, 1, 3])
        self.assertEqual(rounds_by(web, names), [(False, 1), (True, 1), (False, 1)])


class NothingIsKept(unittest.TestCase):

    def test_what_is_handed_in_stays(self):
        dice = Dice(9)
        for web in many_webs():
            names = many_names(web[0], dice)[dice.roll(8)]
            rows = helpers.rounds_by_names(web, names)
            names_before, rows_before = list(names), list(rows)
            chosen_by(web, names)
            rounds_by(web, names)
            latest_by(web, names)
            is_rounds(web, names, rows)
            self.assertEqual(names, names_before)
            self.assertEqual(rows, rows_before)
            wrong = [(not chosen, -number) for chosen, number in rows]
            wrong_before = list(wrong)
            is_rounds(web, names, wrong)
            self.assertEqual((names, wrong), (names_before, wrong_before))

    def test_a_told_list_is_the_askers_own(self):
        web, names = helpers.row_web(3), [1, 2, 3]
        chosen, rows = chosen_by(web, names), rounds_by(web, names)
        again, rows_again = chosen_by(web, names), rounds_by(web, names)
        self.assertIsNot(chosen, again)
        self.assertIsNot(rows, rows_again)
        chosen.append(1)
        chosen[0] = "x"
        rows.reverse()
        rows[0] = None
        rows.pop()
        self.assertEqual((again, rows_again), ([0, 2], [(True, 1), (False, 1), (True, 2)]))
        self.assertEqual(chosen_by(web, names), [0, 2])
        self.assertEqual(rounds_by(web, names), [(True, 1), (False, 1), (True, 2)])
        self.assertEqual(latest_by(web, names), 2)
        self.assertIs(is_rounds(web, names, rows_again), True)

    def test_what_is_done_behind_the_call_turns_nothing(self):
        web, names = helpers.row_web(3), [1, 2, 3]
        chosen, rows = chosen_by(web, names), rounds_by(web, names)
        names[:] = [2, 1, 3]
        self.assertEqual((chosen, rows), ([0, 2], [(True, 1), (False, 1), (True, 2)]))
        self.assertEqual(chosen_by(web, names), [1])
        self.assertEqual(rounds_by(web, names), [(False, 1), (True, 1), (False, 1)])
        self.assertEqual(latest_by(web, names), 1)
        self.assertIs(is_rounds(web, names, rows), False)
        rows[:] = [(False, 1), (True, 1), (False, 1)]
        self.assertIs(is_rounds(web, names, rows), True)

    def test_a_told_list_is_not_one_that_was_handed_in(self):
        web, names = (1, ()), [0]
        self.assertIsNot(chosen_by(web, names), names)
        rows = [(True, 1)]
        is_rounds(web, names, rows)
        self.assertIsNot(rounds_by(web, names), rows)


if __name__ == "__main__":
    unittest.main()
