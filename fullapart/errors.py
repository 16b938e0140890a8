"""What the program refuses with."""


class ApartError(ValueError):
    """Any refusal of the program."""


class NoHouse(ApartError):
    """No house has this number."""


class NoTie(ApartError):
    """There is no such tie, or there are too many."""


class NoSet(ApartError):
    """One set has a house that it cannot have by the other."""


class NoHues(ApartError):
    """There cannot be this number of hues."""


class NoStep(ApartError):
    """Nothing is under way that could come."""


class NoText(ApartError):
    """The text does not write what is wanted."""


class NoRow(ApartError):
    """The desk does not take this row."""


class NoName(ApartError):
    """The name of the house of this number is another's, too."""

    def __init__(self, number):
        super().__init__("another house has this name, too")
        self.number = number
