"""Chances and means by draws: each house left draws a number from 0 to sides - 1."""

from fullapart.draws import least_of, left_behind, near_left, out_by
from fullapart.errors import NoSet
from fullapart.fraction import fraction_of


def rows_of_draws(web, sides, near):
    """Tell all rows of draws of the houses that are tied to one left; the others draw 0."""
    rows = [[]]
    for house in range(web[0]):
        numbers = list(range(sides)) if near.get(house) else [0]
        rows = [row + [number] for row in rows for number in numbers]
    return rows


def chosen_ways(near, rows):
    """Tell how many of these rows of draws choose each set of the houses left."""
    ways = {}
    for numbers in rows:
        chosen = tuple(least_of(near, numbers))
        ways[chosen] = ways.get(chosen, 0) + 1
    return ways


def ways_from(web, sides, here):
    """Tell how many rows of draws of all houses leave each set behind the next round."""
    # With less than one side there would be no row of draws to speak of.
    sides = max(1, sides)
    near = near_left(web, here)
    # What a house draws that is tied to no house left turns nothing, so each row
    # in which these draw 0 stands for as many as they may draw together.
    alike = 1
    for house in range(web[0]):
        if not near.get(house):
            alike = alike * sides
    ways = {}
    for chosen, count in chosen_ways(near, rows_of_draws(web, sides, near)).items():
        picked = list(chosen)
        there = tuple(left_behind(near, picked, out_by(near, picked)))
        ways[there] = ways.get(there, 0) + count * alike
    return ways


def all_ways(web, sides):
    """Tell the ways from each set that may be left at some time, all and none, too."""
    ways = {}
    waiting = [(), tuple(range(web[0]))]
    while waiting:
        here = waiting.pop()
        if here not in ways:
            ways[here] = ways_from(web, sides, here)
            waiting.extend(list(ways[here]))
    return ways


def ways_behind(ways, counts):
    """Tell how often each set is left one round behind these counts."""
    behind = {}
    for here, count in counts.items():
        for there, more in ways[here].items():
            behind[there] = behind.get(there, 0) + count * more
    return behind


def chance_behind(web, sides, rounds):
    """Tell the chance that behind so many rounds none is left."""
    ways = all_ways(web, sides)
    # From each set there are as many rows of draws, so one number is under all.
    total = sum(ways[()].values())
    counts = {tuple(range(web[0])): 1}
    under = 1
    for _ in range(rounds):
        counts = ways_behind(ways, counts)
        under = under * total
    return fraction_of(counts.get((), 0), under)


def chance_of(web, sides, here, there):
    """Tell the chance that of the houses left ahead of a round just these are left behind it."""
    inside = set(here)
    for house in there:
        if house not in inside:
            raise NoSet("a house is left behind the round that was not left ahead of it")
    ways = ways_from(web, sides, here)
    return fraction_of(ways.get(there, 0), sum(ways.values()))


def weighed(ways, means):
    """Tell the sum of the means of all sets, each as often as there are ways to it."""
    over, under = 0, 1
    for there, count in ways.items():
        mean_over, mean_under = means[there]
        more = count * mean_over * under
        over, under = fraction_of(over * mean_under + more, under * mean_under)
    return (over, under)


def mean_from(here, ways, means):
    """Tell the mean number of rounds from a set on by those of the lesser sets."""
    if not here:
        return (0, 1)
    total = sum(ways.values())
    # The set itself may be left again. Its mean stands on both sides of what
    # makes a row right, and here it is taken out of the one. (With one side, which
    # is beyond what is promised, tied houses stay for ever, and 0 comes under it.)
    lesser = {there: count for there, count in ways.items() if there != here}
    over, under = weighed(lesser, means)
    return fraction_of(total * under + over, under * sum(lesser.values()))


def mean_rounds(web, sides):
    """Tell the mean number of rounds, and that from each set on that may be left."""
    ways = all_ways(web, sides)
    means = {}
    for here in sorted(ways, key=len):
        means[here] = mean_from(here, ways[here], means)
    return (means[tuple(range(web[0]))], sorted(means.items()))


def is_mean(mean, ways, means):
    """Tell whether a mean is one more than what the means behind the next round tell."""
    if not all([there in means for there in ways]):
        return False
    total = sum(ways.values())
    over, under = weighed(ways, means)
    return mean == fraction_of(total * under + over, total * under)


def is_means(web, sides, rows):
    """Tell whether a table of mean rounds is right."""
    means = {left: mean for left, mean in rows}
    if means.get(()) != (0, 1) or tuple(range(web[0])) not in means:
        return False
    for left, mean in rows:
        if left and not is_mean(mean, ways_from(web, sides, left), means):
            return False
    return True
