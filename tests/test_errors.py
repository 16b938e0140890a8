"""The refusals of the interface: their names, bases, texts and the field."""

import unittest

from fullapart import errors

OF_A_TEXT = ("NoHouse", "NoTie", "NoSet", "NoHues", "NoStep", "NoText", "NoRow")
RIGHT_UNDER = OF_A_TEXT + ("NoName",)


class Errors(unittest.TestCase):

    def test_apart_error_is_a_value_error(self):
        self.assertEqual(errors.ApartError.__bases__, (ValueError,))

    def test_the_others_are_right_under_it(self):
        for name in RIGHT_UNDER:
            self.assertEqual(getattr(errors, name).__bases__, (errors.ApartError,), name)

    def test_none_is_under_another(self):
        for name in RIGHT_UNDER:
            for other in RIGHT_UNDER:
                under = issubclass(getattr(errors, name), getattr(errors, other))
                self.assertEqual(under, name == other, (name, other))

    def test_each_is_defined_in_its_file(self):
        for name in RIGHT_UNDER + ("ApartError",):
            self.assertEqual(getattr(errors, name).__module__, "fullapart.errors")
            self.assertEqual(getattr(errors, name).__name__, name)

    def test_made_of_a_text(self):
        for name in OF_A_TEXT + ("ApartError",):
            error = getattr(errors, name)
            with self.assertRaises(error) as caught:
                raise error("why it is refused")
            self.assertIs(type(caught.exception), error)
            self.assertEqual(str(caught.exception), "why it is refused")

    def test_no_name_has_its_number(self):
        for number in (0, 1, 59, 10**69):
            with self.assertRaises(errors.ApartError) as caught:
                raise errors.NoName(number)
            self.assertIs(type(caught.exception), errors.NoName)
            self.assertEqual(caught.exception.number, number)
            self.assertIs(type(caught.exception.number), int)

    def test_each_no_name_has_its_own_number(self):
        first, second = errors.NoName(3), errors.NoName(4)
        self.assertEqual((first.number, second.number), (3, 4))


if __name__ == "__main__":
    unittest.main()
