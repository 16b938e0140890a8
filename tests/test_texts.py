"""Texts: point 20, and what point 2 says of it."""

import inspect
import unittest
from math import gcd

from fullapart import texts as module
from fullapart.errors import ApartError, NoText
from fullapart.texts import (
    read_fraction, read_set, read_web, show_fraction, show_set, show_web,
)
from fullapart.webs import is_web

from tests import helpers
from tests.helpers import SIGNS, Dice, all_sets, all_webs, bent, many_webs, parts_bent

SIXTY = 10**60 - 1
READERS = (
    (read_web, helpers.written_web), (read_set, helpers.written_set),
    (read_fraction, helpers.written_fraction),
)


class Interface(unittest.TestCase):

    def test_defined_in_its_file_with_its_arguments(self):
        wanted = {
            "show_web": ["web"], "show_set": ["some"], "show_fraction": ["one"],
            "read_web": ["text"], "read_set": ["text"], "read_fraction": ["text"],
        }
        for name, arguments in wanted.items():
            function = getattr(module, name)
            self.assertTrue(inspect.isfunction(function), name)
            self.assertEqual(function.__module__, "fullapart.texts")
            self.assertEqual(list(inspect.signature(function).parameters), arguments)


class WrittenAndRead(unittest.TestCase):

    def assert_both(self, show, read, thing, text):
        self.assertEqual(show(thing), text)
        self.assertIs(type(show(thing)), str)
        self.assertEqual(repr(read(text)), repr(thing))

    def test_webs_by_hand(self):
        for web, text in (
            ((1, ()), "1"), ((60, ()), "60"), ((2, ((0, 1),)), "2 0-1"),
            ((4, ((0, 1), (0, 3), (1, 2))), "4 0-1 0-3 1-2"), ((60, ((0, 10), (58, 59))), "60 0-10 58-59"),
        ):
            self.assert_both(show_web, read_web, web, text)

    def test_sets_by_hand(self):
        for some, text in (
            ([], "none"), ([0], "0"), ([59], "59"), ([0, 1, 2], "0 1 2"), ([3, 10, 100], "3 10 100"),
            ([0, SIXTY - 1, SIXTY], f"0 {SIXTY - 1} {SIXTY}"),
        ):
            self.assert_both(show_set, read_set, some, text)

    def test_fractions_by_hand(self):
        for one, text in (
            ((0, 1), "0"), ((1, 1), "1"), ((17, 1), "17"), ((1, 2), "1/2"), ((7, 3), "7/3"),
            ((10, 9), "10/9"), ((SIXTY, 1), str(SIXTY)), ((1, SIXTY), f"1/{SIXTY}"),
            ((SIXTY, SIXTY - 1), f"{SIXTY}/{SIXTY - 1}"),
        ):
            self.assert_both(show_fraction, read_fraction, one, text)

    def test_all_webs_are_read_as_what_was_written(self):
        for web in many_webs() + [web for many in (1, 2, 3, 4) for web in all_webs(many)]:
            text = show_web(web)
            words = [str(web[0])] + [str(one) + "-" + str(other) for one, other in web[1]]
            self.assertEqual(text, " ".join(words))
            told = read_web(text)
            self.assertEqual(told, web)
            self.assertIs(is_web(told), True)

    def test_all_sets_are_read_as_what_was_written(self):
        dice = Dice(20)
        far = [sorted({dice.roll(10**9) ** 6 for _ in range(many)}) for many in (1, 5, 60)]
        for some in all_sets(range(7)) + [list(range(60))] + far:
            text = show_set(some)
            self.assertEqual(text, " ".join(str(house) for house in some) or "none")
            self.assertEqual(read_set(text), some)
            self.assertIs(type(read_set(text)), list)

    def test_fractions_are_read_as_what_was_written(self):
        for over in range(30):
            for under in range(1, 30):
                if gcd(over, under) == 1:
                    text = str(over) if under == 1 else f"{over}/{under}"
                    self.assert_both(show_fraction, read_fraction, (over, under), text)

    def test_somewhat_more_than_sixty_is_shown_without_an_error(self):
        show_set([0, 10**69])
        show_fraction((10**69, 10**69 + 1))
        show_web((61, ((0, 60),)))


class Read(unittest.TestCase):
    """Each text is handed to all three, and held against what it writes by patterns."""

    def assert_read(self, text):
        for read, written in READERS:
            wanted = written(text)
            if wanted is None:
                with self.assertRaises(ApartError, msg=(read, text)) as caught:
                    read(text)
                self.assertIs(type(caught.exception), NoText)
            else:
                self.assertEqual(repr(read(text)), repr(wanted), (read, text))

    def assert_none(self, *texts):
        for text in texts:
            for read, _ in READERS:
                self.assertRaises(NoText, read, text)

    def test_no_web(self):
        for text in (
            "0", "61", "60 0-60", "1 0-1", "2 1-0", "2 0-0", "2 0-1 0-1", "3 0-2 0-1", "3 1-2 0-1",
            "2 0-2", "2 0 1", "2 0-", "2 -1", "2 -", "2 0-1-2", "2 0--1", "2,0-1", "2 0-1,1-2",
            "2 00-1", "2 0-01", "02 0-1", "+2 0-1", "2 +0-1", "2  0-1", " 2", "2 ", "2\n", "none",
            "", " ", "-", "2 none", "2/1", "(2, ())", "60 " + "0" * 59 + "-1", f"{SIXTY}",
        ):
            self.assertRaises(NoText, read_web, text)
            self.assert_read(text)

    def test_no_set(self):
        for text in (
            "1 0", "0 0", "0 2 1", "0 1 1", "-1", "+1", "01", "00", "0 01", "none 1", "1 none",
            "none none", "None", "NONE", "none ", " none", "none\n", "", " ", "0,1", "0  1", " 0",
            "0 ", "0\n1", "0\n", "0-1", "1/2", "[0, 1]", "1_0", "0x1", "1.0", "1e3",
        ):
            self.assertRaises(NoText, read_set, text)
            self.assert_read(text)

    def test_no_fraction(self):
        for text in (
            "2/4", "6/3", "3/3", "0/2", "0/1", "1/1", "5/1", "1/0", "0/0", "5/0", "10/15", "/", "1/",
            "/2", "1/2/3", "1//2", "-1/2", "1/-2", "+1/2", "1/+2", "01/2", "1/02", "00", "01", "-1",
            "1 /2", "1/ 2", "1 / 2", " 1/2", "1/2 ", "1/2\n", "\n1/2", "", " ", "none", "1 2", "1-2",
            "1/1_0", "0.5", f"{SIXTY}/{SIXTY}",
        ):
            self.assertRaises(NoText, read_fraction, text)
            self.assert_read(text)

    def test_numbers_of_many_figures(self):
        for figures in (1, 2, 59, 60, 61, 62, 70, 4300, 4301, 5000):
            for number in ("1" + "0" * (figures - 1), "9" * figures, "0" * figures):
                for text in (
                    number, f"0 {number}", f"{number}/7", f"1/{number}", f"{number} 0-1",
                    f"2 0-{number}", f"2 {number}-1", f"-{number}", f"+{number}", f"0{number}",
                ):
                    self.assert_read(text)
        self.assertEqual(read_set(f"7 {SIXTY}"), [7, SIXTY])
        self.assertRaises(NoText, read_set, f"7 {SIXTY + 1}")
        self.assertEqual(read_fraction(f"1/{SIXTY}"), (1, SIXTY))
        self.assertRaises(NoText, read_fraction, f"1/{SIXTY + 1}")
        self.assertRaises(NoText, read_fraction, str(SIXTY + 1))
        self.assert_none("1" * 5000, "0" * 5000, "1" * 5000 + "/2", "-" * 5000, " " * 5000)

    def test_signs_that_are_figures_to_python_only(self):
        for sign in ("\u00b2", "\u0663", "\uff11", "\u0967", "\u2460", "\u00bd", "_", "+", "-"):
            self.assert_none(
                sign, f"1{sign}", f"{sign}1", f"1 {sign}", f"1{sign}1 0-1", f"5/{sign}", f"{sign}/2",
                f"1{sign}/2", f"3 0-{sign}", f"3 {sign}-2",
            )
        for blank in ("\t", "\n", "\r", "\x0b", "\x0c", "\u00a0", "\u2003", "\x1f"):
            self.assert_none(
                f"1{blank}", f"{blank}1", f"0{blank}1", f"1/2{blank}", f"1/{blank}2", f"none{blank}",
                f"2 0-1{blank}", f"2{blank}0-1", f"2 0-{blank}1",
            )

    def test_all_short_texts(self):
        signs = "012-/ n\n"
        texts = [""]
        for _ in range(5):
            texts = [text + sign for text in texts for sign in signs] + [""]
            for text in texts:
                self.assert_read(text)

    def test_texts_bent_at_any_place_by_any_sign(self):
        for text in (
            "1", "60", "2 0-1", "4 0-1 0-3 1-2", "12 0-10 3-11", "none", "0", "0 5 17", "9 10 100",
            "3/2", "10/9", "0/7", "17", str(SIXTY), f"{SIXTY} 0-1", f"3/{SIXTY}",
        ):
            for turned in bent(text, SIGNS):
                self.assert_read(turned)

    def test_parts_left_out_twice_exchanged(self):
        for text in ("4 0-1 0-3 1-2", "60 0-1 2-30 5-59", "0 5 17 200", "none", "7/3", "5"):
            for turned in parts_bent(text):
                self.assert_read(turned)
                for again in parts_bent(turned):
                    self.assert_read(again)

    def test_texts_bent_at_two_places(self):
        dice = Dice(23)
        for text in ("4 0-1 0-3 1-2", "0 5 17", "10/9", "none"):
            for turned in bent(text, "019-/ "):
                for _ in range(4):
                    at, sign = dice.roll(len(turned) + 1), SIGNS[dice.roll(len(SIGNS))]
                    self.assert_read(turned[:at] + sign + turned[at + dice.roll(2):])


class NothingIsKept(unittest.TestCase):

    def test_what_is_handed_in_stays(self):
        some = [0, 3, 4]
        self.assertEqual(show_set(some), "0 3 4")
        self.assertEqual(some, [0, 3, 4])
        some[1] = 2
        self.assertEqual(show_set(some), "0 2 4")
        self.assertEqual(show_set([]), "none")

    def test_a_told_list_is_the_askers_own(self):
        for text, wanted in (("0 3", [0, 3]), ("none", [])):
            first, second = read_set(text), read_set(text)
            self.assertIsNot(first, second)
            first.append(9)
            self.assertEqual(second, wanted)
            self.assertEqual(read_set(text), wanted)


if __name__ == "__main__":
    unittest.main()
