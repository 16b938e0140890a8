"""The set by names, and the rounds in which it is chosen."""

from fullapart.errors import NoName
from fullapart.webs import is_whole, neighbours


def refuse_alike(names):
    """Refuse names of which two are alike."""
    ahead = set()
    for house, name in enumerate(names):
        if name in ahead:
            raise NoName(house)
        ahead.add(name)


def lesser_neighbours(web, names):
    """Tell for each house its neighbours of lesser names."""
    lesser = []
    for house, near in enumerate(neighbours(web)):
        lesser.append([other for other in near if names[other] < names[house]])
    return lesser


def latest_of(rows):
    """Tell the last round of these rows."""
    return max([number for _, number in rows], default=0)


def row_by(rows):
    """Tell the row of a house by the rows of its neighbours of lesser names."""
    chosen_in = [number for chosen, number in rows if chosen]
    if chosen_in:
        return (False, min(chosen_in))
    return (True, 1 + latest_of(rows))


def is_row(row):
    """Tell whether a row is made of a truth and a whole number."""
    # To Python 1 equals True; as a row's truth or number it is not the same.
    return len(row) == 2 and isinstance(row[0], bool) and is_whole(row[1])


def rows_along(near, order):
    """Tell the row of each house, going through the houses by rising names."""
    rows = [None] * len(near)
    # Each house comes behind those that its row hangs on, so one going through
    # serves for all rounds.
    for house in order:
        ahead = [rows[other] for other in near[house]]
        rows[house] = row_by([row for row in ahead if row is not None])
    return rows


def rounds_by(web, names):
    """Tell for each house whether it is chosen and in which round it is decided."""
    refuse_alike(names)
    by_names = sorted([(names[house], house) for house in range(web[0])])
    return rows_along(neighbours(web), [house for _, house in by_names])


def chosen_by(web, names):
    """Tell the set by names."""
    # Going through by rising names picks a house just where no neighbour of a
    # lesser name was picked, which is what its row says, too.
    return [house for house, row in enumerate(rounds_by(web, names)) if row[0]]


def latest_by(web, names):
    """Tell how many rounds there are."""
    return latest_of(rounds_by(web, names))


def is_rounds(web, names, rows):
    """Tell whether each house's row is the one that its neighbours' rows tell."""
    refuse_alike(names)
    if len(rows) != web[0] or not all([is_row(row) for row in rows]):
        return False
    for house, lesser in enumerate(lesser_neighbours(web, names)):
        if rows[house] != row_by([rows[other] for other in lesser]):
            return False
    return True
