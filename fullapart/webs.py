"""Webs of tied houses, and sets of their houses."""

from fullapart.errors import NoHouse

MOST_HOUSES = 60


def is_whole(thing):
    """Tell whether a thing is a whole number."""
    # To Python a truth is an int, too.
    return isinstance(thing, int) and not isinstance(thing, bool)


def is_tie(thing, many):
    """Tell whether a thing is a tie of two of so many houses."""
    if not isinstance(thing, tuple) or len(thing) != 2:
        return False
    one, other = thing
    return is_whole(one) and is_whole(other) and 0 <= one < other < many


def is_rising(things):
    """Tell whether each thing is greater than the one ahead."""
    return all([one < other for one, other in zip(things, things[1:])])


def is_web(thing):
    """Tell whether a thing is a web."""
    if not isinstance(thing, tuple) or len(thing) != 2:
        return False
    many, ties = thing
    if not is_whole(many) or not 1 <= many <= MOST_HOUSES:
        return False
    if not isinstance(ties, tuple) or not all([is_tie(tie, many) for tie in ties]):
        return False
    # Behind the tests above: things of other kinds cannot be compared.
    return is_rising(ties)


def neighbours(web):
    """Tell for each house the rising list of the houses that it is tied to."""
    many, ties = web
    near = [[] for _ in range(many)]
    # No sorting is needed: the rising ties bring each house its lesser
    # neighbours ahead of its greater ones, and both rising.
    for one, other in ties:
        near[one].append(other)
        near[other].append(one)
    return near


def refuse_no_house(web, house):
    """Refuse a number that no house of the web has."""
    if not is_whole(house) or not 0 <= house < web[0]:
        raise NoHouse("no house of the web has this number")


def tied_to(web, house):
    """Tell the houses that a house is tied to, rising."""
    refuse_no_house(web, house)
    return neighbours(web)[house]


def tie_within(web, some):
    """Tell the first tie of two houses of a set, or None."""
    inside = set(some)
    for one, other in web[1]:
        if one in inside and other in inside:
            return (one, other)
    return None


def first_bare(web, some):
    """Tell the first house that is neither in a set nor tied to one in it, or None."""
    inside = set(some)
    covered = set(some)
    for one, other in web[1]:
        if one in inside:
            covered.add(other)
        if other in inside:
            covered.add(one)
    for house in range(web[0]):
        if house not in covered:
            return house
    return None


def is_apart(web, some):
    """Tell whether no two houses of a set are tied."""
    return tie_within(web, some) is None


def is_full(web, some):
    """Tell whether each house of the web is in a set or tied to one in it."""
    return first_bare(web, some) is None


def lacks_of(web, some):
    """Tell what a set lacks to be apart and full, or None."""
    tie = tie_within(web, some)
    if tie is not None:
        return ("tied", tie[0], tie[1])
    house = first_bare(web, some)
    if house is not None:
        return ("bare", house)
    return None
