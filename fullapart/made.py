"""Webs that are made of a web: that of its ties, and that of house and hue."""

from itertools import combinations

from fullapart.errors import NoHues, NoTie
from fullapart.names import chosen_by
from fullapart.webs import MOST_HOUSES


def houses_of(ties):
    """Tell both houses of each tie, one tie behind the other."""
    return [house for tie in ties for house in tie]


def is_touching(tie, other):
    """Tell whether two ties have a house in common."""
    return tie[0] in other or tie[1] in other


def web_of_ties(web):
    """Tell the web whose houses are the ties of a web."""
    ties = web[1]
    if not 1 <= len(ties) <= MOST_HOUSES:
        raise NoTie("a web of ties is made of one to sixty ties")
    touching = []
    for one, other in combinations(range(len(ties)), 2):
        if is_touching(ties[one], ties[other]):
            touching.append((one, other))
    return (len(ties), tuple(touching))


def pairing_by(web, names):
    """Tell the full pairing that going through the ties by rising names picks."""
    return [web[1][number] for number in chosen_by(web_of_ties(web), names)]


def is_pairing(web, some):
    """Tell whether of some ties of a web no two have a house in common."""
    houses = houses_of(some)
    return len(set(houses)) == len(houses)


def is_full_pairing(web, some):
    """Tell whether some ties of a web are a pairing that each tie of the web touches."""
    paired = set(houses_of(some))
    touched = [one in paired or other in paired for one, other in web[1]]
    return is_pairing(web, some) and all(touched)


def hue_web(web, hues):
    """Tell the web whose houses are the houses of a web, each with each hue."""
    many, ties = web
    if hues < 1 or many * hues > MOST_HOUSES:
        raise NoHues("houses times hues are to be one to sixty")
    made = []
    for house in range(many):
        first = house * hues
        made.extend(list(combinations(range(first, first + hues), 2)))
    for one, other in ties:
        made.extend([(one * hues + hue, other * hues + hue) for hue in range(hues)])
    return (many * hues, tuple(sorted(made)))


def hues_by(web, hues, names):
    """Tell for each house the hue with which it stands in the set by names, or None."""
    told = [None] * web[0]
    for number in chosen_by(hue_web(web, hues), names):
        # A house is never picked with two hues, for these are tied.
        house, hue = divmod(number, hues)
        told[house] = hue
    return told
