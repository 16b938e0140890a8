"""Webs, sets and fractions as texts, and what such texts write."""

from fullapart.errors import NoText
from fullapart.fraction import fraction_of
from fullapart.webs import is_rising, is_web

FIGURES = "0123456789"
MOST_FIGURES = 60


def show_numbers(numbers):
    """Write numbers, a blank between."""
    return " ".join([str(number) for number in numbers])


def show_ties(ties):
    """Write ties, a blank between."""
    return " ".join([f"{one}-{other}" for one, other in ties])


def show_web(web):
    """Write a web."""
    many, ties = web
    if not ties:
        return str(many)
    return f"{many} {show_ties(ties)}"


def show_set(some):
    """Write a set."""
    if not some:
        return "none"
    return show_numbers(some)


def show_fraction(one):
    """Write a fraction whose over is from 0 on."""
    over, under = one
    if under == 1:
        return str(over)
    return f"{over}/{under}"


def number_in(word, most):
    """Tell the number that a word writes by at most so many figures, or None."""
    # What Python takes for a number is more than this: signs, blanks and lines
    # between figures, and the figures of other scripts.
    if not 1 <= len(word) <= most or not all([sign in FIGURES for sign in word]):
        return None
    if len(word) > 1 and word[0] == "0":
        return None
    return int(word)


def tie_in(word):
    """Tell the two numbers that a word writes with a dash between, None for what is no number."""
    one, _, other = word.partition("-")
    return (number_in(one, MOST_FIGURES), number_in(other, MOST_FIGURES))


def read_web(text):
    """Tell the web that a text writes."""
    words = text.split(" ")
    ties = tuple([tie_in(word) for word in words[1:]])
    web = (number_in(words[0], MOST_FIGURES), ties)
    if not is_web(web):
        raise NoText("the text writes no web")
    return web


def read_set(text):
    """Tell the rising list that a text writes."""
    if text == "none":
        return []
    numbers = [number_in(word, MOST_FIGURES) for word in text.split(" ")]
    if None in numbers or not is_rising(numbers):
        raise NoText("the text writes no rising list of numbers")
    return numbers


def is_fraction(over, under):
    """Tell whether two numbers, or None, are the over and the under, 2 or more, of a fraction."""
    if over is None or under is None or under < 2:
        return False
    return fraction_of(over, under) == (over, under)


def read_fraction(text):
    """Tell the fraction that a text writes."""
    before, stroke, behind = text.partition("/")
    over = number_in(before, MOST_FIGURES)
    if over is not None and not stroke:
        return (over, 1)
    under = number_in(behind, MOST_FIGURES)
    if not is_fraction(over, under):
        raise NoText("the text writes no fraction")
    return (over, under)
