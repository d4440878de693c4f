"""The trees of a game."""

from lotsandchoices.ratio import NOTHING

WORTH = "worth"
ADD = "add"
LOTS = "lots"
STATION = "station"


class Tree:
    """A tree of one of the four kinds, with the trees within it as its ways; what its kind lacks is empty.

    amount is what a worth is worth or an add adds, shares the fractions of the ways of lots, name and
    labels those of a station, place and label_places where these stand, station its number; steps and
    weight tell of a worth what it comes to, as Courses counts it, total is the one times the other.
    """

    def __init__(self, kind):
        self.kind = kind
        self.ways = []
        self.amount = NOTHING
        self.shares = []
        self.name = ""
        self.place = 0
        self.labels = []
        self.label_places = []
        self.station = 0
        self.steps = 0
        self.weight = 0
        self.total = 0


def in_text_order(tree):
    """The tree and all trees within it, in the order in which they begin in the text."""
    found = []
    waiting = [tree]
    while len(waiting) > 0:
        first = waiting.pop()
        found.append(first)
        for way in reversed(first.ways):
            waiting.append(way)
    return found
