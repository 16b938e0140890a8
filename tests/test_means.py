"""The mean by draws: points 10 to 12, and what points 2 and 3 say of them."""

import inspect
import unittest
from fractions import Fraction
from itertools import product

from fullapart import errors
from fullapart import means as module
from fullapart.means import chance_behind, chance_of, is_means, mean_rounds

from tests import helpers
from tests.helpers import Dice, all_sets, all_webs, forms, is_fraction, pair_of

SIDES = (2, 3, 4)
FAR = 10**69


def sets_of(web):
    return all_sets(range(web[0]), tuple)


def everyone(web):
    return tuple(range(web[0]))


def webs_and_sides():
    """All webs of up to three houses, and the forms of four and five, with all sides."""
    small = [web for many in (1, 2, 3) for web in all_webs(many)]
    for web in small + forms(4) + forms(5):
        for sides in SIDES:
            yield web, sides


def told_chance(web, sides, here, there):
    return pair_of(Fraction(helpers.chances_from(web, sides, here).get(there, 0)))


class Interface(unittest.TestCase):

    def test_defined_in_its_file_with_its_arguments(self):
        wanted = {
            "chance_behind": ["web", "sides", "rounds"],
            "chance_of": ["web", "sides", "here", "there"],
            "mean_rounds": ["web", "sides"],
            "is_means": ["web", "sides", "rows"],
        }
        for name, arguments in wanted.items():
            function = getattr(module, name)
            self.assertTrue(inspect.isfunction(function), name)
            self.assertEqual(function.__module__, "fullapart.means")
            self.assertEqual(list(inspect.signature(function).parameters), arguments)


class ByHand(unittest.TestCase):

    def test_one_house(self):
        for sides in SIDES:
            self.assertEqual(chance_behind((1, ()), sides, 0), (0, 1))
            self.assertEqual(chance_behind((1, ()), sides, 1), (1, 1))
            self.assertEqual(chance_behind((1, ()), sides, 60), (1, 1))
            self.assertEqual(chance_of((1, ()), sides, (0,), ()), (1, 1))
            self.assertEqual(chance_of((1, ()), sides, (0,), (0,)), (0, 1))
            told = ((1, 1), [((), (0, 1)), ((0,), (1, 1))])
            self.assertEqual(mean_rounds((1, ()), sides), told)

    def test_two_tied(self):
        # Alike in one of as many draws as there are sides.
        web = (2, ((0, 1),))
        for sides in SIDES:
            self.assertEqual(chance_of(web, sides, (0, 1), (0, 1)), (1, sides))
            self.assertEqual(chance_of(web, sides, (0, 1), ()), (sides - 1, sides))
            self.assertEqual(chance_of(web, sides, (0, 1), (0,)), (0, 1))
            self.assertEqual(chance_of(web, sides, (0, 1), (1,)), (0, 1))
            self.assertEqual(chance_of(web, sides, (1,), ()), (1, 1))
            for rounds in (0, 1, 2, 60):
                under = sides**rounds
                self.assertEqual(chance_behind(web, sides, rounds), pair_of(Fraction(under - 1, under)))
            mean = pair_of(Fraction(sides, sides - 1))
            self.assertEqual(mean_rounds(web, sides), (mean, [((), (0, 1)), ((0, 1), mean)]))

    def test_a_row_of_three_with_two_sides(self):
        # Of the eight rows of draws 010 and 101 leave none, 011 leaves 2, 110 leaves 0.
        web = helpers.row_web(3)
        told = [chance_of(web, 2, (0, 1, 2), there) for there in sets_of(web)]
        wanted = {(): (1, 4), (0,): (1, 8), (2,): (1, 8), (0, 1, 2): (1, 2)}
        self.assertEqual(told, [wanted.get(there, (0, 1)) for there in sets_of(web)])
        rows = [((), (0, 1)), ((0,), (1, 1)), ((0, 1, 2), (5, 2)), ((2,), (1, 1))]
        self.assertEqual(mean_rounds(web, 2), ((5, 2), rows))
        self.assertIs(is_means(web, 2, rows), True)
        told = [chance_behind(web, 2, rounds) for rounds in (0, 1, 2, 3)]
        self.assertEqual(told, [(0, 1), (1, 4), (5, 8), (13, 16)])

    def test_three_tied_all_to_all_with_two_sides(self):
        web = helpers.all_tied_web(3)
        self.assertEqual(chance_of(web, 2, (0, 1, 2), ()), (3, 8))
        self.assertEqual(chance_of(web, 2, (0, 1, 2), (0, 1, 2)), (5, 8))
        self.assertEqual(mean_rounds(web, 2), ((8, 3), [((), (0, 1)), ((0, 1, 2), (8, 3))]))
        self.assertEqual(chance_behind(web, 2, 2), (39, 64))

    def test_no_ties(self):
        for many in (2, 5):
            web = helpers.bare_web(many)
            for sides in SIDES:
                self.assertEqual(chance_behind(web, sides, 1), (1, 1))
                self.assertEqual(chance_of(web, sides, everyone(web), ()), (1, 1))
                told = ((1, 1), [((), (0, 1)), (everyone(web), (1, 1))])
                self.assertEqual(mean_rounds(web, sides), told)

    def test_none_becomes_none(self):
        for web, sides in webs_and_sides():
            self.assertEqual(chance_of(web, sides, (), ()), (1, 1))


class Chances(unittest.TestCase):

    def test_each_two_sets_by_all_rows_of_draws(self):
        for web, sides in webs_and_sides():
            if web[0] < 5 or sides == 2:
                for here in sets_of(web):
                    for there in all_sets(here, tuple):
                        told = chance_of(web, sides, here, there)
                        self.assertEqual(told, told_chance(web, sides, here, there), (web, here, there))
                        self.assertTrue(is_fraction(told))

    def test_sets_of_five_houses_by_all_rows_of_draws(self):
        dice = Dice(12)
        for web in forms(5):
            for sides in (3, 4):
                for here in [everyone(web), everyone(web)[1:], sets_of(web)[dice.roll(32)]]:
                    chances = helpers.chances_from(web, sides, here)
                    for there in [(), here, here[1:], here[:2], *chances]:
                        told = chance_of(web, sides, here, there)
                        self.assertEqual(told, told_chance(web, sides, here, there), (web, here, there))

    def test_those_of_one_round_are_one_in_all(self):
        for web, sides in webs_and_sides():
            if web[0] < 5 or sides == 2:
                for here in sets_of(web):
                    told = [chance_of(web, sides, here, there) for there in all_sets(here, tuple)]
                    self.assertEqual(sum(Fraction(*chance) for chance in told), 1)

    def test_a_house_more_behind_is_refused(self):
        for web, sides in webs_and_sides():
            if web[0] < 5:
                for here in sets_of(web):
                    for there in sets_of(web):
                        if set(there) - set(here):
                            with self.assertRaises(errors.NoSet) as caught:
                                chance_of(web, sides, here, there)
                            self.assertIs(type(caught.exception), errors.NoSet)
                            self.assertIsInstance(caught.exception, errors.ApartError)

    def test_a_house_more_of_five(self):
        web = helpers.ring_web(5)
        for here, there in (
            ((), (0,)), ((), (4,)), ((0, 1, 2, 3), (4,)), ((1, 2, 3, 4), (0, 1, 2, 3, 4)),
            ((0, 1, 3, 4), (2, 3)), ((0,), (1,)), ((), (0, 1, 2, 3, 4)), ((1, 3), (1, 2, 3)),
        ):
            for sides in SIDES:
                self.assertRaises(errors.NoSet, chance_of, web, sides, here, there)
                told = chance_of(web, sides, here, here)
                self.assertEqual(told, told_chance(web, sides, here, here))

    def test_a_set_becomes_itself_only_where_each_house_is_tied_in_it(self):
        for web, sides in webs_and_sides():
            for here in [everyone(web), everyone(web)[:2]]:
                over, _ = chance_of(web, sides, here, here)
                others = helpers.near(web)
                tied = all(any(other in here for other in others[house]) for house in here)
                self.assertEqual(over > 0, tied, (web, here))


class Behind(unittest.TestCase):

    def test_each_number_of_rounds(self):
        for web, sides in webs_and_sides():
            few = range(61) if web[0] < 4 else (0, 1, 2, 3, 7, 30, 59, 60)
            wanted = helpers.chances_behind(web, sides, 60)
            for rounds in few:
                told = chance_behind(web, sides, rounds)
                self.assertEqual(told, pair_of(wanted[rounds]), (web, sides, rounds))
                self.assertTrue(is_fraction(told))

    def test_two_rounds_by_all_pairs_of_rows_of_draws(self):
        for web in forms(3) + forms(2) + forms(1):
            for sides in (2, 3):
                rows = [list(row) for row in product(range(sides), repeat=web[0])]
                runs = [helpers.run_by_draws(web, [one, other]) for one in rows for other in rows]
                none = sum(not left for _, left in runs)
                self.assertEqual(chance_behind(web, sides, 2), pair_of(Fraction(none, len(runs))))

    def test_as_many_figures_as_are_needed(self):
        web = helpers.all_tied_web(5)
        over, under = chance_behind(web, 4, 60)
        self.assertEqual((over, under), (512**60 - 267**60, 512**60))
        self.assertGreater(len(str(under)), 150)

    def test_never_less_and_from_one_round_on_more_than_nothing(self):
        for web, sides in webs_and_sides():
            told = [Fraction(*chance_behind(web, sides, rounds)) for rounds in (0, 1, 2, 3, 60)]
            self.assertEqual(told, sorted(told))
            self.assertEqual(told[0], 0)
            self.assertGreater(told[1], 0)

    def test_somewhat_beyond_the_limits_is_no_error(self):
        web = helpers.row_web(3)
        for sides in (0, 1, 2, 5, 6):
            for rounds in (-1, 0, 61, 80):
                chance_behind(web, sides, rounds)
            chance_of(web, sides, (0, 1, 2), (0,))
            chance_of(web, sides, (), ())
            rows = mean_rounds(web, sides)[1]
            is_means(web, sides, rows[:1])
            is_means(web, sides, [((), (0, 1)), ((0, 1, 2), (1, 1))])
        web = helpers.ring_web(6)
        self.assertIs(is_means(web, 2, mean_rounds(web, 2)[1]), True)
        self.assertEqual(chance_of(helpers.row_web(2), 5, (0, 1), (0, 1)), (1, 5))


class MeanRounds(unittest.TestCase):

    def test_the_rows_by_all_rows_of_draws(self):
        for web, sides in webs_and_sides():
            wanted = helpers.means_of_all_sets(web, sides)
            lefts = helpers.sets_that_may_be_left(web, sides)
            rows = [(left, pair_of(wanted[left])) for left in lefts]
            told = mean_rounds(web, sides)
            self.assertEqual(told, (pair_of(wanted[everyone(web)]), rows), (web, sides))

    def test_kinds(self):
        for web, sides in webs_and_sides():
            told = mean_rounds(web, sides)
            self.assertEqual((type(told), len(told), type(told[1])), (tuple, 2, list))
            self.assertTrue(is_fraction(told[0]))
            for row in told[1]:
                self.assertEqual((type(row), len(row), type(row[0])), (tuple, 2, tuple))
                self.assertTrue(all(type(house) is int for house in row[0]))
                self.assertEqual(list(row[0]), sorted(set(row[0])))
                self.assertTrue(is_fraction(row[1]))
            self.assertEqual(told[1], sorted(told[1]))
            lefts = [left for left, _ in told[1]]
            self.assertEqual(len(set(lefts)), len(lefts))
            self.assertIn((everyone(web), told[0]), told[1])

    def test_the_mean_is_the_sum_of_the_chances_that_some_are_left(self):
        for web, sides in webs_and_sides():
            mean, rows = mean_rounds(web, sides)
            behind = [Fraction(*chance_behind(web, sides, rounds)) for rounds in range(40)]
            known = sum(1 - chance for chance in behind[:-1])
            rest = (1 - behind[-1]) * max(Fraction(*worst) for _, worst in rows)
            self.assertLessEqual(known, Fraction(*mean))
            self.assertLessEqual(Fraction(*mean), known + rest)

    def test_what_is_told_makes_a_right_table(self):
        for web, sides in webs_and_sides():
            self.assertIs(is_means(web, sides, mean_rounds(web, sides)[1]), True, (web, sides))


class Tables(unittest.TestCase):

    def assert_same(self, web, sides, rows):
        wanted = helpers.right_table(web, sides, rows)
        self.assertIs(is_means(web, sides, rows), wanted, (web, sides, rows))
        return wanted

    def test_a_mean_otherwise(self):
        for web, sides in webs_and_sides():
            rows = mean_rounds(web, sides)[1]
            for at, (left, (over, under)) in enumerate(rows):
                mean = Fraction(over, under)
                others = [mean + 1, mean - 1, -mean, 2 * mean, mean + Fraction(1, FAR), 0, 1, FAR]
                for other in others if web[0] < 5 else others[:2]:
                    if other != mean:
                        turned = rows[:at] + [(left, pair_of(Fraction(other)))] + rows[at + 1:]
                        self.assertIs(is_means(web, sides, turned), False, (web, sides, turned))

    def test_a_row_left_out(self):
        for web, sides in webs_and_sides():
            rows = mean_rounds(web, sides)[1]
            for at in range(len(rows)):
                turned = rows[:at] + rows[at + 1:]
                self.assertIs(is_means(web, sides, turned), False, (web, sides, turned))

    def test_too_few_rows(self):
        for web in ((1, ()), (2, ((0, 1),)), helpers.row_web(5)):
            for sides in SIDES:
                self.assertIs(is_means(web, sides, []), False)
                self.assertIs(is_means(web, sides, [((), (0, 1))]), False)
                self.assertIs(is_means(web, sides, [(everyone(web), (1, 1))]), False)

    def test_the_row_of_none_otherwise(self):
        for web, sides in webs_and_sides():
            rows = mean_rounds(web, sides)[1]
            for mean in ((1, 1), (-1, 1), (1, FAR), (FAR, 1)):
                self.assertIs(is_means(web, sides, [((), mean)] + rows[1:]), False)
            # The others reckoned on from it: right but for the row of none.
            moved = [((), (1, 1))] + [(left, (over + under, under)) for left, (over, under) in rows[1:]]
            self.assertIs(is_means(web, sides, moved), False)

    def test_a_table_of_all_sets(self):
        for web, sides in webs_and_sides():
            means = helpers.means_of_all_sets(web, sides)
            rows = [(left, pair_of(means[left])) for left in sorted(means)]
            self.assertIs(is_means(web, sides, rows), True, (web, sides))

    def test_rows_of_houses_that_are_never_left(self):
        counts = {True: 0, False: 0}
        for web, sides in webs_and_sides():
            means = helpers.means_of_all_sets(web, sides)
            told = mean_rounds(web, sides)[1]
            known = dict(told)
            for left in [left for left in sets_of(web) if left not in known][:8]:
                right = means[left]
                for mean in (right, right + 1, right - Fraction(1, 2), Fraction(0)):
                    rows = sorted(told + [(left, pair_of(mean))])
                    counts[self.assert_same(web, sides, rows)] += 1
        self.assertGreater(min(counts.values()), 30)

    def test_a_row_more_wants_those_that_may_be_left_behind_it(self):
        # In a row of five houses 1 to 4 are never left; from them on 1, or 4, may be.
        web = helpers.row_web(5)
        for sides in SIDES:
            told = mean_rounds(web, sides)[1]
            means = {left: pair_of(mean) for left, mean in helpers.means_of_all_sets(web, sides).items()}
            self.assertNotIn((1, 2, 3, 4), dict(told))
            self.assertNotIn((1,), dict(told))
            more = told + [((1, 2, 3, 4), means[1, 2, 3, 4])]
            self.assertIs(is_means(web, sides, sorted(more)), False)
            behind = [left for left in helpers.chances_from(web, sides, (1, 2, 3, 4)) if left not in dict(told)]
            more += [(left, means[left]) for left in behind if left != (1, 2, 3, 4)]
            self.assertIs(is_means(web, sides, sorted(more)), True)
            self.assertIs(is_means(web, sides, sorted(more)[:-1]), False)

    def test_by_other_sides(self):
        for web, sides in webs_and_sides():
            rows = mean_rounds(web, sides)[1]
            for other in SIDES:
                self.assertEqual(self.assert_same(web, other, rows), other == sides or not web[1])

    def test_reckoned_on_from_one_wrong_mean(self):
        for web, sides in webs_and_sides():
            told = mean_rounds(web, sides)[1]
            lefts = [left for left, _ in told]
            for wrong in lefts[1:] if web[0] < 5 else lefts[1::3]:
                means = helpers.means_of_all_sets(web, sides, wrong)
                rows = [(left, pair_of(means[left])) for left in lefts]
                self.assertIs(is_means(web, sides, rows), False, (web, sides, rows))

    def test_by_another_web(self):
        for sides in SIDES:
            for web in forms(4):
                for other in forms(4):
                    rows = mean_rounds(other, sides)[1]
                    self.assert_same(web, sides, rows)


class NothingIsKept(unittest.TestCase):

    def test_what_is_handed_in_stays(self):
        for web, sides in webs_and_sides():
            rows = mean_rounds(web, sides)[1]
            before = list(rows)
            is_means(web, sides, rows)
            self.assertEqual(rows, before)
            rows.pop()
            before.pop()
            is_means(web, sides, rows)
            self.assertEqual(rows, before)

    def test_a_told_table_changed_turns_nothing(self):
        web = helpers.row_web(3)
        first, second = mean_rounds(web, 2), mean_rounds(web, 2)
        self.assertIsNot(first[1], second[1])
        wanted = ((5, 2), [((), (0, 1)), ((0,), (1, 1)), ((0, 1, 2), (5, 2)), ((2,), (1, 1))])
        first[1][0] = ((), (9, 1))
        first[1].pop()
        first[1].reverse()
        self.assertEqual((second, mean_rounds(web, 2)), (wanted, wanted))
        self.assertIs(is_means(web, 2, second[1]), True)
        self.assertIs(is_means(web, 2, first[1]), False)
        self.assertEqual(chance_behind(web, 2, 1), (1, 4))
        self.assertEqual(chance_of(web, 2, (0, 1, 2), (0,)), (1, 8))

    def test_one_web_does_not_turn_another(self):
        first, second = helpers.row_web(4), helpers.ring_web(4)
        for sides in SIDES:
            told = [mean_rounds(web, sides) for web in (first, second, first, second)]
            self.assertEqual(told[:2], told[2:])
            self.assertNotEqual(told[0], told[1])
            self.assertIs(is_means(first, sides, told[1][1]), False)
            self.assertIs(is_means(second, sides, told[1][1]), True)

    def test_a_refusal_turns_nothing(self):
        web = helpers.row_web(3)
        for _ in range(3):
            self.assertRaises(errors.NoSet, chance_of, web, 2, (0, 1), (0, 2))
            self.assertEqual(chance_of(web, 2, (0, 1), ()), (1, 2))


if __name__ == "__main__":
    unittest.main()
