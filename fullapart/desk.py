"""A desk that is told rows and answers with texts."""

from fullapart.errors import NoRow, NoText
from fullapart.made import hues_by, pairing_by
from fullapart.means import mean_rounds
from fullapart.names import chosen_by, latest_by, rounds_by
from fullapart.orders import chance_in, mean_size, most_latest
from fullapart.texts import number_in, read_web, show_fraction, show_numbers, show_set, show_ties
from fullapart.webs import is_rising, lacks_of

MOST_FIGURES = 4
MOST_FOR_MEANS = 5
MOST_FOR_ORDERS = 6


def web_told(text):
    """Tell the web of a row."""
    try:
        return read_web(text)
    except NoText:
        raise NoRow("the row's text writes no web") from None


def refuse_more_houses(web, most):
    """Refuse a row that wants a web of at most so many houses."""
    if web[0] > most:
        raise NoRow("the row wants a web of fewer houses")


def numbers_told(words):
    """Tell the numbers of a row."""
    numbers = [number_in(word, MOST_FIGURES) for word in words]
    if None in numbers:
        raise NoRow("a word of the row is no number of at most four figures")
    return numbers


def wanted_numbers(words, many):
    """Tell the numbers of a row that wants so many."""
    if len(words) != many:
        raise NoRow("the row has too few words, or too many")
    return numbers_told(words)


def say_names(web, words):
    """Answer with the set by names."""
    return show_set(chosen_by(web, wanted_numbers(words, web[0])))


def say_latest(web, words):
    """Answer with the number of rounds."""
    return str(latest_by(web, wanted_numbers(words, web[0])))


def say_rounds(web, words):
    """Answer with the round of each house."""
    rows = rounds_by(web, wanted_numbers(words, web[0]))
    return show_numbers([number for _, number in rows])


def say_lacks(web, words):
    """Answer with what a set lacks."""
    some = numbers_told(words)
    if not is_rising(some) or any([house >= web[0] for house in some]):
        raise NoRow("the row's numbers are no set of houses")
    lacks = lacks_of(web, some)
    if lacks is None:
        return "none"
    return f"{lacks[0]} {show_numbers(lacks[1:])}"


def say_mean(web, words):
    """Answer with the mean number of rounds by draws."""
    refuse_more_houses(web, MOST_FOR_MEANS)
    sides = wanted_numbers(words, 1)[0]
    if not 2 <= sides <= 4:
        raise NoRow("there are two to four sides")
    return show_fraction(mean_rounds(web, sides)[0])


def say_chance(web, words):
    """Answer with the chance that a house is chosen over all orders."""
    refuse_more_houses(web, MOST_FOR_ORDERS)
    return show_fraction(chance_in(web, wanted_numbers(words, 1)[0]))


def say_size(web, words):
    """Answer with the mean number of those chosen over all orders."""
    refuse_more_houses(web, MOST_FOR_ORDERS)
    wanted_numbers(words, 0)
    return show_fraction(mean_size(web))


def say_most(web, words):
    """Answer with the most rounds over all orders."""
    refuse_more_houses(web, MOST_FOR_ORDERS)
    wanted_numbers(words, 0)
    return str(most_latest(web)[0])


def say_pairs(web, words):
    """Answer with the full pairing by names of the ties."""
    return show_ties(pairing_by(web, wanted_numbers(words, len(web[1]))))


def say_hues(web, words):
    """Answer with the hue of each house."""
    numbers = numbers_told(words)
    if not numbers or len(numbers) != 1 + web[0] * numbers[0]:
        raise NoRow("the row has too few words, or too many")
    hues = hues_by(web, numbers[0], numbers[1:])
    return " ".join(["none" if hue is None else str(hue) for hue in hues])


ANSWERS = {
    "names": say_names,
    "latest": say_latest,
    "rounds": say_rounds,
    "lacks": say_lacks,
    "mean": say_mean,
    "chance": say_chance,
    "size": say_size,
    "most": say_most,
    "pairs": say_pairs,
    "hues": say_hues,
}


class Desk:
    """A desk with the web that it was told last."""

    def __init__(self):
        self._web = None

    def say(self, row):
        """Answer a row with a text."""
        word, _, rest = row.partition(" ")
        if word == "web":
            self._web = web_told(rest)
            return "ok"
        if word not in ANSWERS or self._web is None:
            raise NoRow("no such row is answered, or there is no web")
        answer = ANSWERS[word]
        return answer(self._web, row.split(" ")[1:])
