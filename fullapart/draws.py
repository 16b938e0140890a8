"""Runs by draws, and whether there are draws by which a run is told."""


def near_left(web, left):
    """Tell for each house left, in order, the houses left that it is tied to."""
    near = {house: [] for house in left}
    for one, other in web[1]:
        if one in near and other in near:
            near[one].append(other)
            near[other].append(one)
    return near


def least_of(near, numbers):
    """Tell the houses left that drew less than each house left that they are tied to."""
    least = []
    for house, others in near.items():
        if all([numbers[house] < numbers[other] for other in others]):
            least.append(house)
    return least


def out_by(near, chosen):
    """Tell the houses left that are tied to a chosen one."""
    inside = set(chosen)
    out = []
    for house, others in near.items():
        if any([other in inside for other in others]):
            out.append(house)
    return out


def left_behind(near, chosen, out):
    """Tell the houses left that are neither chosen nor out."""
    decided = set(chosen + out)
    return [house for house in near if house not in decided]


def may_choose(near, chosen):
    """Tell whether there are draws by which these of the houses left are chosen."""
    inside = set(chosen)
    if chosen != [house for house in near if house in inside]:
        return False
    # Nothing more is wanted than what follows: let the chosen ones draw 0 and the
    # others 1, then each other one is tied to a house that drew no more than it.
    for house, others in near.items():
        if house not in inside and not others:
            return False
        if house in inside and any([other in inside for other in others]):
            return False
    return True


def run_by(web, draws):
    """Tell what each round of draws decides, and the houses left at the end."""
    rounds = []
    left = list(range(web[0]))
    for numbers in draws:
        if not left:
            break
        near = near_left(web, left)
        chosen = least_of(near, numbers)
        out = out_by(near, chosen)
        rounds.append((chosen, out))
        left = left_behind(near, chosen, out)
    return (rounds, left)


def is_run(web, rounds, left):
    """Tell whether there are draws by which these rounds and these left are told."""
    here = list(range(web[0]))
    for chosen, out in rounds:
        near = near_left(web, here)
        if not here or not may_choose(near, chosen) or out != out_by(near, chosen):
            return False
        here = left_behind(near, chosen, out)
    return left == here
