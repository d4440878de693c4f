"""What a policy comes to: the courses through a tree, with their worths and chances."""

from lotsandchoices.ratio import NOTHING, ONE, common_multiple, divided, lowest, plus, times
from lotsandchoices.tree import LOTS, STATION, WORTH


class Arrival:
    """A place of the tree as it is come to, if all choices lead there.

    amount is what it is worth with all that is added on the way, chance that of all lots on the way.
    """

    def __init__(self, tree, added, chance):
        self.tree = tree
        self.amount = plus(added, tree.amount)
        self.chance = chance


class Courses:
    """The courses through a tree, whose worths and chances are counted in whole numbers.

    A worth is its steps divided by unit, the chance to come to it its weight divided by parts: so they
    are added and compared quickly, whatever denominators stand in the text. worths and chances tell
    the fractions of those steps and weights that are known already.
    """

    def __init__(self, tree):
        ends = ends_of(tree)
        self.tree = tree
        self.unit = 1
        self.parts = 1
        self.worths = {}
        self.chances = {}
        for end in ends:
            self.unit = common_multiple(self.unit, end.amount[1])
            self.parts = common_multiple(self.parts, end.chance[1])
        for end in ends:
            end.tree.steps = end.amount[0] * (self.unit // end.amount[1])
            end.tree.weight = end.chance[0] * (self.parts // end.chance[1])
            end.tree.total = end.tree.steps * end.tree.weight
            self.worths[end.tree.steps] = end.amount
            self.chances[end.tree.weight] = end.chance


def chances_of_ways(tree):
    """For each way the chance that it is drawn; where nothing is drawn, 1."""
    if tree.kind != LOTS:
        return [ONE for way in tree.ways]
    together = NOTHING
    for share in tree.shares:
        together = plus(together, share)
    return [divided(share, together) for share in tree.shares]


def ends_of(tree):
    """The arrivals at all worths of a tree."""
    ends = []
    waiting = [Arrival(tree, NOTHING, ONE)]
    while len(waiting) > 0:
        here = waiting.pop()
        if here.tree.kind == WORTH:
            ends.append(here)
        for way, chance in zip(here.tree.ways, chances_of_ways(here.tree)):
            waiting.append(Arrival(way, here.amount, times(here.chance, chance)))
    return ends


def ways_taken(tree, policy):
    """The ways of a tree that may be gone under a policy."""
    if tree.kind == STATION:
        return [tree.ways[policy[tree.station]]]
    return tree.ways


def ends_under(tree, policy):
    """The worths within a tree that the choices of a policy lead to, those of chance 0 too."""
    ends = []
    waiting = [tree]
    while len(waiting) > 0:
        here = waiting.pop()
        if here.kind == WORTH:
            ends.append(here)
        waiting.extend(ways_taken(here, policy))
    return ends


def weights_by_steps(courses, policy):
    """What a policy comes to: for the steps of each worth its weight; worths of chance 0 are left out."""
    found = {}
    for end in ends_under(courses.tree, policy):
        if end.weight > 0:
            found[end.steps] = found.get(end.steps, 0) + end.weight
    return found


def total_of(courses, policy):
    """The expected worth of a policy times unit and parts: a whole number, so that it is compared quickly."""
    return sum([end.total for end in ends_under(courses.tree, policy)])


def worth_of_total(courses, total):
    """The expected worth that a total tells of."""
    return lowest(total, courses.unit * courses.parts)


def spread_of(courses, policy):
    total = 0
    squares = 0
    for steps, weight in weights_by_steps(courses, policy).items():
        total += steps * weight
        squares += steps * steps * weight
    under = courses.unit * courses.parts
    return lowest(squares * courses.parts - total * total, under * under)


def chance_of(courses, weight):
    # Kept, since long numbers are slow to bring to lowest terms, and most chances are asked for again.
    if weight not in courses.chances:
        courses.chances[weight] = lowest(weight, courses.parts)
    return courses.chances[weight]


def outcomes_of(courses, policy):
    """The worths that a policy may come to, the least first, each as a worth and its chance."""
    found = weights_by_steps(courses, policy)
    return [(courses.worths[steps], chance_of(courses, found[steps])) for steps in sorted(found)]


def is_above(courses, policy, other):
    """Whether for every worth the chance to come to at least that is not less than for the other policy."""
    weights = weights_by_steps(courses, policy)
    others = weights_by_steps(courses, other)
    ahead = 0
    for steps in reversed(sorted(set(weights) | set(others))):
        ahead += weights.get(steps, 0) - others.get(steps, 0)
        if ahead < 0:
            return False
    return True
