"""Webs and sets: points 4 and 5, and what point 2 says of them."""

import inspect
import unittest
from itertools import product

from fullapart import webs
from fullapart.errors import ApartError, NoHouse
from fullapart.webs import is_apart, is_full, is_web, lacks_of, tied_to

from tests import helpers
from tests.helpers import Dice, all_sets, all_webs, many_webs

FAR = 10**69


class Interface(unittest.TestCase):

    def test_defined_in_its_file_with_its_arguments(self):
        wanted = {
            "is_web": ["thing"],
            "tied_to": ["web", "house"],
            "is_apart": ["web", "some"],
            "is_full": ["web", "some"],
            "lacks_of": ["web", "some"],
        }
        for name, arguments in wanted.items():
            function = getattr(webs, name)
            self.assertTrue(inspect.isfunction(function), name)
            self.assertEqual(function.__module__, "fullapart.webs")
            self.assertEqual(list(inspect.signature(function).parameters), arguments)


class IsWeb(unittest.TestCase):

    def assert_webs(self, *things):
        for thing in things:
            self.assertIs(is_web(thing), True, thing)

    def assert_no_webs(self, *things):
        for thing in things:
            self.assertIs(is_web(thing), False, thing)

    def test_ordinary_webs(self):
        self.assert_webs(*many_webs())
        for many in (1, 2, 3, 4):
            self.assert_webs(*all_webs(many))

    def test_how_many_houses(self):
        self.assert_webs((1, ()), (2, ()), (59, ()), (60, ()), (60, ((0, 59), (58, 59))))
        self.assert_no_webs((0, ()), (61, ()), (62, ()), (-1, ()), (-60, ()), (FAR, ()), (-FAR, ()))
        self.assert_no_webs((61, ((0, 1),)), (0, ((0, 1),)), (-2, ((0, 1),)))

    def test_houses_that_there_are_not(self):
        self.assert_no_webs(
            (1, ((0, 1),)), (2, ((0, 2),)), (2, ((1, 2),)), (3, ((0, 1), (0, 3))),
            (3, ((3, 4),)), (60, ((0, 60),)), (2, ((-1, 0),)), (2, ((-1, 1),)),
            (2, ((-2, -1),)), (2, ((0, FAR),)), (2, ((-FAR, 1),)),
        )

    def test_ties_turned_about_or_of_one_house(self):
        self.assert_no_webs(
            (2, ((1, 0),)), (3, ((0, 1), (2, 1))), (2, ((0, 0),)), (2, ((1, 1),)),
            (3, ((0, 1), (1, 1))), (3, ((0, 0), (0, 1))), (3, ((0, 1), (1, 0))),
        )

    def test_ties_that_do_not_rise(self):
        self.assert_no_webs(
            (2, ((0, 1), (0, 1))), (3, ((0, 2), (0, 1))), (3, ((1, 2), (0, 1))),
            (3, ((1, 2), (0, 2))), (3, ((0, 1), (0, 1), (1, 2))),
            (3, ((0, 1), (1, 2), (1, 2))), (4, ((0, 1), (2, 3), (1, 2))),
            (4, ((0, 1), (0, 2), (0, 1))), (4, ((0, 3), (0, 2), (1, 2))),
        )
        self.assert_webs((3, ((0, 1), (0, 2))), (3, ((0, 2), (1, 2))), (4, ((0, 3), (1, 2))))

    def test_truths_are_no_numbers(self):
        self.assert_no_webs(
            (True, ()), (False, ()), (2, ((False, 1),)), (2, ((0, True),)),
            (2, ((False, True),)), (3, ((True, 2),)), (3, ((0, 1), (0, 2), (True, 2))),
            (True, True), (2, False),
        )

    def test_other_kinds(self):
        self.assert_no_webs(
            None, True, False, 0, 1, 2, -1, FAR, "", "2", "20", "(2, ())", (), [], [[]], ((),),
            (2,), (2, (), ()), ((), 2), [2, ()], [2, []], (2, []), (2, [(0, 1)]), (2, None),
            (2, 0), (2, 1), (2, ""), (2, "01"), (2, (0, 1)), (2, ((),)), (2, (((0, 1),),)),
            (2, (None,)), (2, ("01",)), (2, ("",)), (2, ([0, 1],)), (3, ((0, 1), [0, 2])),
            (3, ([0, 1], (0, 2))), (2, ((0,),)), (2, ((0, 1, 1),)), (3, ((0, 1, 2),)),
            (2, (("0", "1"),)), (2, ((0, "1"),)), (2, (("0", 1),)), (2, ((None, 1),)),
            (2, ((0, None),)), (2, (((0,), (1,)),)), (2, ((0, (1,)),)), (2, (([], 1),)),
            ("2", ()), (None, ()), ((2,), ()), ([2], ()), ("", ""), (None, None),
            ((2, ()),), ((1, ()), (1, ())), (1, ((((((),),),),),)), [[[[[[2]]]]]],
        )

    def test_kinds_that_cannot_be_compared(self):
        self.assert_no_webs(
            (3, ((0, 1), None)), (3, (None, (0, 1))), (3, ((0, 1), "a")), (3, ("a", (0, 1), 2)),
            (3, ((0, "a"), (0, 1))), (3, ((0, 1), (0, None), (1, 2))), (3, ((0, 1), 2, [])),
            (3, ((0, 1), (0, (2,)))), ("a", ((0, 1),)), (None, ((0, 1), (0, 1))),
        )

    def test_anything_made_of_a_few_things(self):
        # A thing shows like a web just where it is one: True does not show like 1.
        shown = {repr(web) for many in (1, 2, 3) for web in all_webs(many)}
        small = [0, 1, 2, -1, True, False, None, "", "ab", (), []]
        pairs = [kind(pair) for kind in (tuple, list) for pair in product(small, repeat=2)]
        things = small + pairs
        lists = [kind(some) for kind in (tuple, list) for some in product(pairs, repeat=1)]
        lists += [kind(some) for some in product(pairs[:40], repeat=2) for kind in (tuple, list)]
        for many in (1, 2, 3, True, None, "2"):
            things += [kind((many, some)) for some in things + lists for kind in (tuple, list)]
        self.assertGreater(sum(repr(thing) in shown for thing in things), 3)
        for thing in things:
            self.assertIs(is_web(thing), repr(thing) in shown, thing)

    def test_any_two_ties(self):
        shown = {repr(web) for web in all_webs(3)}
        ties = list(product((-1, 0, 1, 2, 3), repeat=2))
        for size in (1, 2):
            for some in product(ties, repeat=size):
                self.assertIs(is_web((3, some)), repr((3, some)) in shown, some)

    def test_what_is_handed_in_stays(self):
        thing = [2, [[0, 1], ["a", None]], (3, [4])]
        is_web(thing)
        is_web((2, thing))
        is_web((2, (thing,)))
        self.assertEqual(thing, [2, [[0, 1], ["a", None]], (3, [4])])

    def test_nothing_is_kept(self):
        tie = [0, 1]
        self.assertIs(is_web((2, (tie,))), False)
        self.assertIs(is_web((2, (tuple(tie),))), True)
        self.assertIs(is_web((2, (tie,))), False)


class TiedTo(unittest.TestCase):

    def test_by_hand(self):
        web = (5, ((0, 1), (0, 3), (1, 3), (2, 3)))
        told = [tied_to(web, house) for house in range(5)]
        self.assertEqual(told, [[1, 3], [0, 3], [3], [0, 1, 2], []])
        self.assertEqual(tied_to((1, ()), 0), [])
        self.assertEqual(tied_to((60, ((0, 59),)), 59), [0])

    def test_each_house_of_many_webs(self):
        small = [web for many in (1, 2, 3, 4) for web in all_webs(many)]
        for web in many_webs() + small:
            for house, others in enumerate(helpers.near(web)):
                told = tied_to(web, house)
                self.assertIs(type(told), list)
                self.assertEqual(told, others)

    def test_rising_on_both_sides(self):
        web = helpers.all_tied_web(60)
        for house in (0, 1, 30, 58, 59):
            told = tied_to(web, house)
            self.assertEqual(told, [other for other in range(60) if other != house])

    def test_no_house(self):
        for web in ((1, ()), (2, ((0, 1),)), helpers.ring_web(5), helpers.all_tied_web(60)):
            for house in (-1, -2, -web[0], web[0], web[0] + 1, 61, FAR, -FAR):
                with self.assertRaises(NoHouse) as caught:
                    tied_to(web, house)
                self.assertIs(type(caught.exception), NoHouse)
                self.assertIsInstance(caught.exception, ApartError)

    def test_a_told_list_is_the_askers_own(self):
        web = helpers.ring_web(4)
        first = tied_to(web, 0)
        second = tied_to(web, 0)
        self.assertIsNot(first, second)
        first.append(2)
        first[0] = "x"
        self.assertEqual(second, [1, 3])
        self.assertEqual(tied_to(web, 0), [1, 3])
        self.assertEqual([tied_to(web, house) for house in (1, 2, 3)], [[0, 2], [1, 3], [0, 2]])
        self.assertIs(is_apart(web, [0, 2]), True)
        self.assertIsNone(lacks_of(web, [0, 2]))

    def test_a_refusal_turns_nothing(self):
        web = helpers.row_web(3)
        for house in (3, -1, 3):
            self.assertRaises(NoHouse, tied_to, web, house)
        self.assertEqual([tied_to(web, house) for house in range(3)], [[1], [0, 2], [1]])

    def test_somewhat_beyond_sixty_houses_is_no_error(self):
        tied_to((61, ((0, 60),)), 60)


class Sets(unittest.TestCase):

    def test_by_hand(self):
        web = (6, ((0, 1), (0, 2), (1, 2), (3, 4)))
        for some, apart, full, lacks in (
            ([], True, False, ("bare", 0)),
            ([0], True, False, ("bare", 3)),
            ([3], True, False, ("bare", 0)),
            ([0, 3], True, False, ("bare", 5)),
            ([0, 4, 5], True, True, None),
            ([2, 3, 5], True, True, None),
            ([0, 1], False, False, ("tied", 0, 1)),
            ([1, 2, 3, 5], False, True, ("tied", 1, 2)),
            ([0, 2, 3, 4], False, False, ("tied", 0, 2)),
            ([3, 4, 5], False, False, ("tied", 3, 4)),
            ([0, 1, 2, 3, 4, 5], False, True, ("tied", 0, 1)),
            ([5], True, False, ("bare", 0)),
            ([1, 5], True, False, ("bare", 3)),
        ):
            self.assertIs(is_apart(web, some), apart, some)
            self.assertIs(is_full(web, some), full, some)
            self.assertEqual(lacks_of(web, some), lacks, some)

    def test_one_house(self):
        web = (1, ())
        self.assertEqual((is_apart(web, []), is_full(web, [])), (True, False))
        self.assertEqual((is_apart(web, [0]), is_full(web, [0])), (True, True))
        self.assertEqual(lacks_of(web, []), ("bare", 0))
        self.assertIsNone(lacks_of(web, [0]))

    def test_none_and_all_of_sixty(self):
        for web in (helpers.bare_web(60), helpers.row_web(60), helpers.all_tied_web(60)):
            self.assertIs(is_apart(web, []), True)
            self.assertIs(is_full(web, []), False)
            self.assertEqual(lacks_of(web, []), ("bare", 0))
            self.assertIs(is_full(web, list(range(60))), True)
            self.assertIs(is_apart(web, list(range(60))), web[1] == ())
        self.assertEqual(lacks_of(helpers.bare_web(60), list(range(59))), ("bare", 59))
        self.assertIsNone(lacks_of(helpers.bare_web(60), list(range(60))))
        self.assertEqual(lacks_of((60, ((58, 59),)), list(range(60))), ("tied", 58, 59))
        self.assertIsNone(lacks_of(helpers.star_web(60), list(range(1, 60))))
        self.assertIsNone(lacks_of(helpers.star_web(60), [0]))
        self.assertEqual(lacks_of(helpers.star_web(60), list(range(1, 59))), ("bare", 59))

    def assert_told(self, web, some):
        before = list(some)
        told = (is_apart(web, some), is_full(web, some))
        self.assertEqual(told, (helpers.apart(web, some), helpers.full(web, some)), (web, some))
        self.assertEqual([type(one) for one in told], [bool, bool])
        lacks = lacks_of(web, some)
        self.assertEqual(lacks, helpers.lacks(web, some), (web, some))
        self.assertEqual(lacks is None, told == (True, True))
        if lacks is not None:
            self.assertIs(type(lacks), tuple)
            self.assertTrue(all(type(house) is int for house in lacks[1:]))
        self.assertEqual(some, before)

    def test_each_set_of_small_webs(self):
        for many in (1, 2, 3, 4):
            for web in all_webs(many):
                for some in all_sets(range(many)):
                    self.assert_told(web, some)

    def test_any_sets_of_many_webs(self):
        dice = Dice(5)
        for web in many_webs():
            for of_ten in (0, 1, 3, 6, 9, 10):
                some = [house for house in range(web[0]) if dice.roll(10) < of_ten]
                self.assert_told(web, some)

    def test_what_is_done_behind_the_call_turns_nothing(self):
        web = helpers.row_web(3)
        some = [0, 2]
        self.assertIsNone(lacks_of(web, some))
        some.pop()
        self.assertEqual(lacks_of(web, some), ("bare", 2))
        some[:] = [0, 1]
        self.assertEqual(lacks_of(web, some), ("tied", 0, 1))
        self.assertEqual((is_apart(web, some), is_full(web, some)), (False, True))


if __name__ == "__main__":
    unittest.main()
