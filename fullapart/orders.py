"""Over all orders in which the houses' names may stand, each as often as any other."""

from itertools import permutations

from fullapart.fraction import fraction_of
from fullapart.names import latest_of, rows_along
from fullapart.webs import neighbours, refuse_no_house


def rows_of_orders(web):
    """Tell for each order of names the rows of all houses."""
    near = neighbours(web)
    return [rows_along(near, order) for order in permutations(range(web[0]))]


def mean_of(numbers):
    """Tell the mean of some whole numbers."""
    return fraction_of(sum(numbers), len(numbers))


def gone_first(web, rows):
    """Tell how many ties go in the first round."""
    first = [number == 1 for _, number in rows]
    return len([one for one, other in web[1] if first[one] or first[other]])


def chance_in(web, house):
    """Tell the chance that a house is chosen by names."""
    refuse_no_house(web, house)
    return mean_of([int(rows[house][0]) for rows in rows_of_orders(web)])


def mean_size(web):
    """Tell the mean number of houses that are chosen."""
    return mean_of([len([row for row in rows if row[0]]) for rows in rows_of_orders(web)])


def mean_latest(web):
    """Tell the mean number of rounds."""
    return mean_of([latest_of(rows) for rows in rows_of_orders(web)])


def mean_gone(web):
    """Tell the mean number of ties of which a house is decided in the first round."""
    return mean_of([gone_first(web, rows) for rows in rows_of_orders(web)])


def names_along(order):
    """Tell the names by which the houses come in this order."""
    names = [0] * len(order)
    for name, house in enumerate(order):
        names[house] = name
    return names


def most_latest(web):
    """Tell the most rounds that any order needs, and names that need so many."""
    near = neighbours(web)
    most = 0
    slowest = []
    for order in permutations(range(web[0])):
        number = latest_of(rows_along(near, order))
        if number > most:
            most = number
            slowest = list(order)
    return (most, names_along(slowest))
