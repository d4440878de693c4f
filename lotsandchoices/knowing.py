"""What it is worth to know more than a policy does: where one is, or all lots first."""

from lotsandchoices.courses import chances_of_ways, worth_of_total
from lotsandchoices.ratio import common_multiple, lowest
from lotsandchoices.tree import STATION, WORTH

MOST_WORTHS = 512
MOST_PAIRS = 512


class TooLarge(Exception):
    """A list of worths is too long, or two have too many pairs, to reckon with all lots known first."""


def greatest_total(tree):
    """The greatest total that a tree comes to, if at each place of a station another label may be chosen."""
    totals = [greatest_total(way) for way in tree.ways]
    if tree.kind == STATION:
        return max(totals)
    return tree.total + sum(totals)


def worth_knowing_places(courses):
    """The expected worth knowing where one is."""
    return worth_of_total(courses, greatest_total(courses.tree))


# Below, a list of worths is a dict: for the steps of each worth its weight, which is above 0. Its chance is
# the weight divided by the sum of all weights of the same list.


def drawn_from(lists, chances):
    """What comes out of a tree whose ways come to these lists, with these chances to be drawn."""
    under = [chance[1] * sum(weights.values()) for weights, chance in zip(lists, chances)]
    parts = 1
    for each in under:
        parts = common_multiple(parts, each)
    found = {}
    for place, weights in enumerate(lists):
        factor = chances[place][0] * (parts // under[place])
        if factor > 0:
            for steps, weight in weights.items():
                found[steps] = found.get(steps, 0) + factor * weight
        if len(found) > MOST_WORTHS:
            raise TooLarge()
    return found


def better_of(first, second):
    """What comes out of two lists that are independent, if the better of both is taken."""
    if len(first) * len(second) > MOST_PAIRS:
        raise TooLarge()
    found = {}
    for steps, weight in first.items():
        for other_steps, other_weight in second.items():
            better = max(steps, other_steps)
            found[better] = found.get(better, 0) + weight * other_weight
    return found


def chosen_from(lists):
    """What comes out of a station whose ways come to these lists."""
    found = lists[0]
    for weights in lists[1:]:
        found = better_of(found, weights)
    return found


def list_knowing_lots(tree):
    """The list of worths that may come out of a tree, if all lots are known before anything is chosen."""
    if tree.kind == WORTH:
        return {tree.steps: 1}
    # Ways that are never drawn are looked at too: they may be too large. The last comes first, since the
    # pairs of three lists and more are counted from there.
    lists = [list_knowing_lots(way) for way in reversed(tree.ways)]
    if tree.kind == STATION:
        return chosen_from(lists)
    return drawn_from(lists, list(reversed(chances_of_ways(tree))))


def worths_knowing_lots(courses):
    """The expected worth knowing all lots first, and the worths, the least first, with their chances."""
    weights = list_knowing_lots(courses.tree)
    parts = sum(weights.values())
    total = sum([steps * weight for steps, weight in weights.items()])
    found = [(courses.worths[steps], lowest(weights[steps], parts)) for steps in sorted(weights)]
    return (lowest(total, courses.unit * parts), found)
