"""By draws: points 8 and 9, and what points 2 and 3 say of them."""

import inspect
import unittest
from itertools import product

from fullapart import draws as module
from fullapart.draws import is_run, run_by
from fullapart.names import rounds_by

from tests import helpers
from tests.helpers import Dice, all_sets, all_webs, many_names, many_webs, run_by_draws

GREAT = 10**69


def many_draws(many, dice):
    """Draws: none, of one number, of few unlike ones, of great ones, of names, many rounds."""
    return [
        [],
        [[0] * many],
        [[0] * many] * 3,
        [[dice.roll(2) for _ in range(many)] for _ in range(5)],
        [[dice.roll(4) for _ in range(many)] for _ in range(80)],
        [[dice.roll(1000) for _ in range(many)] for _ in range(3)],
        [[GREAT + dice.roll(3) for _ in range(many)] for _ in range(8)],
        [[GREAT * dice.roll(9) + dice.roll(2) for _ in range(many)] for _ in range(4)],
        [list(range(many)), [many - house for house in range(many)]],
        [[7] * many, dice.shuffled(range(many)), [0] * many, dice.shuffled(range(many))],
        [dice.shuffled(range(many))] * (many + 2),
    ]


def webs_and_draws():
    dice = Dice(8)
    small = [web for many in (1, 2, 3) for web in all_webs(many)]
    for web in many_webs() + small:
        for draws in many_draws(web[0], dice):
            yield web, draws


class Interface(unittest.TestCase):

    def test_defined_in_its_file_with_its_arguments(self):
        wanted = {"run_by": ["web", "draws"], "is_run": ["web", "rounds", "left"]}
        for name, arguments in wanted.items():
            function = getattr(module, name)
            self.assertTrue(inspect.isfunction(function), name)
            self.assertEqual(function.__module__, "fullapart.draws")
            self.assertEqual(list(inspect.signature(function).parameters), arguments)


class RunByHand(unittest.TestCase):

    def test_no_round(self):
        self.assertEqual(run_by((1, ()), []), ([], [0]))
        self.assertEqual(run_by(helpers.ring_web(4), []), ([], [0, 1, 2, 3]))
        self.assertEqual(run_by(helpers.bare_web(60), []), ([], list(range(60))))

    def test_one_house(self):
        for number in (0, 5, GREAT):
            self.assertEqual(run_by((1, ()), [[number]]), ([([0], [])], []))

    def test_no_ties(self):
        self.assertEqual(run_by((3, ()), [[4, 4, 0]]), ([([0, 1, 2], [])], []))

    def test_two_tied(self):
        web = (2, ((0, 1),))
        self.assertEqual(run_by(web, [[0, 1]]), ([([0], [1])], []))
        self.assertEqual(run_by(web, [[3, 2]]), ([([1], [0])], []))
        self.assertEqual(run_by(web, [[GREAT, GREAT + 1]]), ([([0], [1])], []))

    def test_alike_is_not_less(self):
        web = (2, ((0, 1),))
        self.assertEqual(run_by(web, [[0, 0]]), ([([], [])], [0, 1]))
        self.assertEqual(run_by(web, [[5, 5], [5, 5]]), ([([], []), ([], [])], [0, 1]))
        self.assertEqual(run_by(web, [[1, 1], [1, 0]]), ([([], []), ([1], [0])], []))
        # House 2 is chosen, though 0 and 1 drew alike; 1 is out by it, and 0 is left.
        draws = [[3, 3, 1]]
        self.assertEqual(run_by(helpers.row_web(3), draws), ([([2], [1])], [0]))

    def test_a_round_that_chooses_none(self):
        told = run_by(helpers.row_web(4), [[1, 0, 0, 1]])
        self.assertEqual(told, ([([], [])], [0, 1, 2, 3]))

    def test_a_house_that_none_is_left_beside_is_chosen_by_any_number(self):
        told = run_by(helpers.row_web(3), [[1, 1, 0], [9, 0, 0]])
        self.assertEqual(told, ([([2], [1]), ([0], [])], []))

    def test_only_those_left_count(self):
        # Behind the first round 0 and 1 are decided; what they draw then turns nothing.
        web = helpers.row_web(5)
        draws = [[0, 1, 3, 3, 3], [0, 0, 2, 1, 3]]
        self.assertEqual(run_by(web, draws), ([([0], [1]), ([3], [2, 4])], []))
        draws = [[0, 1, 3, 3, 2], [0, 0, 2, 1, 0]]
        self.assertEqual(run_by(web, draws), ([([0, 4], [1, 3]), ([2], [])], []))

    def test_rounds_behind_the_last_are_not_gone_through(self):
        web = helpers.star_web(4)
        told = ([([0], [1, 2, 3])], [])
        self.assertEqual(run_by(web, [[0, 1, 1, 1]]), told)
        self.assertEqual(run_by(web, [[0, 1, 1, 1], [0, 0, 0, 0]]), told)
        self.assertEqual(run_by(web, [[0, 1, 1, 1]] + [[3, 2, 1, 0]] * 79), told)

    def test_a_ring_in_two_rounds(self):
        told = run_by(helpers.ring_web(6), [[0, 1, 1, 1, 1, 2], [9, 9, 2, 1, 2, 9]])
        self.assertEqual(told, ([([0], [1, 5]), ([3], [2, 4])], []))

    def test_sixty_houses_tied_all_to_all(self):
        web = helpers.all_tied_web(60)
        rest = list(range(59))
        self.assertEqual(run_by(web, [[1] * 59 + [0]]), ([([59], rest)], []))
        told = run_by(web, [[4] * 60] * 80)
        self.assertEqual(told, ([([], [])] * 80, list(range(60))))


class RunBySecondWays(unittest.TestCase):

    def test_going_through_the_rounds(self):
        for web, draws in webs_and_draws():
            self.assertEqual(run_by(web, draws), run_by_draws(web, draws), (web, draws))

    def test_each_row_of_few_draws_of_small_webs(self):
        for many in (1, 2, 3):
            rows = [list(row) for row in product(range(3), repeat=many)]
            for web in all_webs(many):
                for first in rows:
                    for second in rows[::3]:
                        draws = [first, second]
                        self.assertEqual(run_by(web, draws), run_by_draws(web, draws))

    def test_kinds(self):
        for web, draws in webs_and_draws():
            told = run_by(web, draws)
            self.assertEqual((type(told), len(told)), (tuple, 2))
            rounds, left = told
            self.assertEqual((type(rounds), type(left)), (list, list))
            lists = [left]
            for step in rounds:
                self.assertEqual((type(step), len(step)), (tuple, 2))
                lists += step
            for some in lists:
                self.assertIs(type(some), list)
                self.assertTrue(all(type(house) is int for house in some))
                self.assertEqual(some, sorted(set(some)))

    def test_no_two_chosen_are_tied_and_they_are_full_where_none_is_left(self):
        for web, draws in webs_and_draws():
            rounds, left = run_by(web, draws)
            chosen = sorted(house for step, _ in rounds for house in step)
            out = [house for _, step in rounds for house in step]
            self.assertTrue(helpers.apart(web, chosen), (web, draws))
            self.assertEqual(helpers.full(web, chosen), not left, (web, draws))
            self.assertEqual(sorted(chosen + out + left), list(range(web[0])))

    def test_some_are_decided_where_no_two_tied_ones_drew_alike(self):
        seen = 0
        for web, draws in webs_and_draws():
            rounds, _ = run_by(web, draws)
            left = set(range(web[0]))
            for numbers, (chosen, out) in zip(draws, rounds):
                ties = [(a, b) for a, b in web[1] if a in left and b in left]
                if all(numbers[a] != numbers[b] for a, b in ties):
                    self.assertTrue(chosen, (web, draws))
                    seen += 1
                left -= set(chosen + out)
        self.assertGreater(seen, 100)

    def test_by_names_each_house_is_decided_in_its_round(self):
        dice = Dice(3)
        small = [web for many in (1, 2, 3, 4) for web in all_webs(many)]
        for web in many_webs() + small:
            for names in many_names(web[0], dice):
                names = [name - min(names) for name in names]
                rounds, left = run_by(web, [names] * web[0])
                rows = [None] * web[0]
                for number, (chosen, out) in enumerate(rounds, 1):
                    for house in chosen:
                        rows[house] = (True, number)
                    for house in out:
                        rows[house] = (False, number)
                self.assertEqual(rows, rounds_by(web, names), (web, names))
                self.assertEqual(left, [])


def turned(rounds, left, dice, many):
    """The run with one thing turned, for a number of things."""
    out = [(rounds, left[1:]), (rounds, left[:-1]), (rounds, [])]
    out += [(rounds[:cut], left) for cut in range(len(rounds))]
    out += [(rounds + [([], [])], left), ([([], [])] + rounds, left)]
    out += [([([], [])] * 70 + rounds, left), (rounds + rounds, left), (rounds[::-1], left)]
    for house in {0, many - 1, dice.roll(many), dice.roll(many)}:
        flipped = sorted(set(left) ^ {house})
        out += [(rounds, flipped), (rounds, [house])]
    for at, (chosen, gone) in enumerate(rounds):
        ahead, behind = rounds[:at], rounds[at + 1:]
        out += [(ahead + behind, left), (ahead + [rounds[at]] * 2 + behind, left)]
        out += [(ahead + [([], [])] + rounds[at:], left), (ahead + [([], gone)] + behind, left)]
        out += [(ahead + [(chosen, [])] + behind, left), (ahead + [(gone, chosen)] + behind, left)]
        out.append((ahead + [([], [])] + behind, left))
        if behind:
            out.append((ahead + [behind[0], rounds[at]] + behind[1:], left))
        for house in {0, many - 1, dice.roll(many), *chosen[:1], *gone[-1:]}:
            flipped = (sorted(set(chosen) ^ {house}), gone)
            out.append((ahead + [flipped] + behind, left))
            flipped = (chosen, sorted(set(gone) ^ {house}))
            out.append((ahead + [flipped] + behind, left))
            moved = (sorted(set(chosen) ^ {house}), sorted(set(gone) ^ {house}))
            out.append((ahead + [moved] + behind, left))
            moved = (sorted(set(chosen) ^ {house}), gone)
            out.append((ahead + [moved] + behind, sorted(set(left) ^ {house})))
            moved = (chosen, sorted(set(gone) ^ {house}))
            out.append((ahead + [moved] + behind, sorted(set(left) ^ {house})))
            if behind:
                later = (sorted(set(behind[0][0]) ^ {house}), behind[0][1])
                step = (sorted(set(chosen) ^ {house}), gone)
                out.append((ahead + [step, later] + behind[1:], left))
    return out


class IsRunByHand(unittest.TestCase):

    def assert_runs(self, web, *runs):
        for rounds, left in runs:
            self.assertIs(is_run(web, rounds, left), True, (web, rounds, left))

    def assert_no_runs(self, web, *runs):
        for rounds, left in runs:
            self.assertIs(is_run(web, rounds, left), False, (web, rounds, left))

    def test_no_round(self):
        self.assert_runs((1, ()), ([], [0]))
        self.assert_no_runs((1, ()), ([], []))
        self.assert_runs(helpers.row_web(3), ([], [0, 1, 2]))
        self.assert_no_runs(helpers.row_web(3), ([], []), ([], [0, 1]), ([], [1, 2]))

    def test_one_house(self):
        self.assert_runs((1, ()), ([([0], [])], []))
        self.assert_no_runs(
            (1, ()), ([([], [])], [0]), ([([], [])], []), ([([], [0])], []), ([([0], [0])], []),
            ([([0], [])], [0]), ([([0], []), ([], [])], []), ([([0], []), ([0], [])], []),
            ([([], []), ([0], [])], []),
        )

    def test_a_round_may_choose_none_where_each_house_is_tied_to_one(self):
        pair = (2, ((0, 1),))
        self.assert_runs(pair, ([([], [])], [0, 1]), ([([], [])] * 80, [0, 1]))
        self.assert_runs(pair, ([([], [])] * 80 + [([1], [0])], []))
        web = (3, ((0, 1),))
        self.assert_no_runs(web, ([([], [])], [0, 1, 2]), ([([0], [1])], [2]))
        self.assert_runs(web, ([([2], [])], [0, 1]), ([([0, 2], [1])], []))
        self.assert_runs(web, ([([2], []), ([], []), ([1], [0])], []))

    def test_one_that_is_alone_only_now_is_chosen_now(self):
        web = helpers.row_web(3)
        self.assert_runs(web, ([([0], [1])], [2]), ([([0], [1]), ([2], [])], []))
        self.assert_no_runs(web, ([([0], [1]), ([], []), ([2], [])], []), ([([0], [1]), ([], [])], [2]))

    def test_no_two_tied_are_chosen(self):
        web = helpers.row_web(4)
        self.assert_no_runs(
            web, ([([0, 1], [2])], [3]), ([([0, 1], [])], [2, 3]), ([([0, 1, 2, 3], [])], []),
            ([([1, 2], [0, 3])], []), ([([0], [1]), ([2, 3], [])], []),
        )
        self.assert_runs(web, ([([0, 3], [1, 2])], []), ([([1, 3], [0, 2])], []))

    def test_those_out_are_just_the_others_tied_to_one_chosen(self):
        web = helpers.star_web(4)
        self.assert_runs(web, ([([0], [1, 2, 3])], []), ([([1], [0]), ([2, 3], [])], []))
        self.assert_no_runs(
            web, ([([0], [1, 2])], [3]), ([([0], [])], [1, 2, 3]), ([([1], [])], [0, 2, 3]),
            ([([1], [0, 2])], [3]), ([([], [0])], [1, 2, 3]), ([([1, 2, 3], [])], [0]),
            ([([1], [0]), ([2, 3], [0])], []), ([([1], [0]), ([1, 2, 3], [])], []),
        )

    def test_nothing_behind_the_end(self):
        web = helpers.row_web(2)
        self.assert_no_runs(web, ([([0], [1]), ([], [])], []), ([([0], [1]), ([0], [1])], []))
        self.assert_no_runs(web, ([([0], [1])] + [([], [])] * 79, []))


class IsRunBySecondWays(unittest.TestCase):

    def test_what_is_told_is_right(self):
        for web, draws in webs_and_draws():
            rounds, left = run_by(web, draws)
            self.assertIs(is_run(web, rounds, left), True, (web, draws))

    def test_each_round_of_small_webs_against_all_draws(self):
        for many in (1, 2, 3):
            sets = all_sets(range(many))
            pairs = list(product(sets, repeat=2))
            for web in all_webs(many):
                found = helpers.runs_of_all_draws(web, 2)
                runs = [[]] + [[pair] for pair in pairs]
                runs += [[pair, other] for pair in pairs for other in pairs[::1 if many < 3 else 5]]
                for rounds in runs:
                    key = tuple((tuple(chosen), tuple(out)) for chosen, out in rounds)
                    for left in sets if len(rounds) < 2 else sets[:many + 1]:
                        wanted = (key, tuple(left)) in found
                        self.assertIs(is_run(web, rounds, left), wanted, (web, rounds, left))

    def test_runs_by_any_draws_are_right(self):
        for web in helpers.forms(4):
            for rounds, left in helpers.runs_of_all_draws(web, 3):
                rounds = [(list(chosen), list(out)) for chosen, out in rounds]
                self.assertIs(is_run(web, rounds, list(left)), True, (web, rounds, left))

    def test_with_one_thing_turned(self):
        dice = Dice(21)
        counts = {True: 0, False: 0}
        small = [web for many in (3, 4) for web in all_webs(many)[::3]]
        for web in many_webs() + small:
            for draws in many_draws(web[0], dice):
                rounds, left = run_by(web, draws[:6])
                for run in turned(rounds, left, dice, web[0]):
                    wanted = helpers.right_run(web, *run)
                    self.assertIs(is_run(web, *run), wanted, (web, run))
                    counts[wanted] += 1
        self.assertGreater(min(counts.values()), 300)


class NothingIsKept(unittest.TestCase):

    def test_what_is_handed_in_stays(self):
        dice = Dice(5)
        for web in many_webs():
            for draws in many_draws(web[0], dice):
                before = [list(row) for row in draws]
                rounds, left = run_by(web, draws)
                self.assertEqual(draws, before)
                for run in [(rounds, left)] + turned(rounds[:3], left, dice, web[0])[::7]:
                    held = ([(list(chosen), list(out)) for chosen, out in run[0]], list(run[1]))
                    is_run(web, *run)
                    self.assertEqual((list(run[0]), run[1]), held)

    def test_no_told_list_is_one_with_another(self):
        web = helpers.row_web(4)
        draws = [[1, 1, 1, 1], [2, 2, 2, 2], [0, 1, 1, 1], [0, 0, 0, 1]]
        rounds, left = run_by(web, draws)
        again, left_again = run_by(web, draws)
        lists = [rounds, left, again, left_again, draws] + draws
        lists += [some for step in rounds + again for some in step]
        self.assertEqual(len({id(some) for some in lists}), len(lists))

    def test_a_told_list_changed_turns_nothing(self):
        web, draws = helpers.row_web(3), [[1, 1, 0], [9, 0, 0]]
        told, other = run_by(web, draws), run_by(web, draws)
        told[0][0][0].append(7)
        told[0][0][1][:] = []
        told[0].append("x")
        told[1].append(0)
        wanted = ([([2], [1]), ([0], [])], [])
        self.assertEqual((other, run_by(web, draws)), (wanted, wanted))
        self.assertIs(is_run(web, *other), True)
        self.assertIs(is_run(web, [([2], [1])], [0]), True)

    def test_what_is_done_behind_the_call_turns_nothing(self):
        web, draws = helpers.row_web(3), [[1, 1, 0]]
        told = run_by(web, draws)
        draws[0][:] = [0, 1, 1]
        draws.append([0, 0, 0])
        self.assertEqual(told, ([([2], [1])], [0]))
        self.assertEqual(run_by(web, draws), ([([0], [1]), ([2], [])], []))
        self.assertIs(is_run(web, *told), True)
        told[1].append(1)
        self.assertIs(is_run(web, *told), False)
        told[1].pop()
        self.assertIs(is_run(web, *told), True)

    def test_somewhat_beyond_the_limits_is_no_error(self):
        web = helpers.row_web(62)
        rounds, left = run_by(web, [list(range(62))] * 90)
        self.assertEqual((len(rounds), left), (31, []))
        self.assertIs(is_run(web, rounds, left), True)


if __name__ == "__main__":
    unittest.main()
