"""From tokens to a title and a tree: the faults that are looked for from left to right."""

from lotsandchoices.fault import Fault, NOT_ALLOWED, NO_CHANCE, NUMBER_TOO_SMALL, TOO_MANY
from lotsandchoices.ratio import lowest
from lotsandchoices.tree import ADD, LOTS, STATION, Tree, WORTH
from lotsandchoices.words import END, NUMBER, is_name

DEEPEST = 24
FEWEST_WAYS = 2
MOST_WAYS = 8
TREE_WORDS = ("add", "pick", "if")


class Reader:
    """Tokens that are taken one by one, each only where it is allowed."""

    def __init__(self, tokens):
        self.tokens = tokens
        self.at = 0

    def ahead(self):
        return self.tokens[self.at]

    def refuse(self, code):
        raise Fault(code, self.ahead().place)

    def take_if(self, allowed):
        if not allowed:
            self.refuse(NOT_ALLOWED)
        self.at += 1
        return self.tokens[self.at - 1]

    def take(self, text):
        return self.take_if(self.ahead().text == text)

    def take_name(self):
        return self.take_if(is_name(self.ahead()))

    def take_number(self):
        return self.take_if(self.ahead().kind == NUMBER)

    def take_end(self):
        return self.take_if(self.ahead().kind == END)

    def goes_on(self, many):
        """Whether a way follows behind this many, by a , that is taken; else a ) is taken."""
        if many < FEWEST_WAYS or self.ahead().text == ",":
            self.take(",")
            return True
        self.take(")")
        return False


def begins_tree(token):
    return token.kind == NUMBER or token.text in TREE_WORDS


def read_fraction(reader):
    over = int(reader.take_number().text)
    if reader.ahead().text != "/":
        return lowest(over, 1)
    reader.take("/")
    under = reader.take_number()
    if int(under.text) < 1:
        raise Fault(NUMBER_TOO_SMALL, under.place)
    return lowest(over, int(under.text))


def read_share(reader):
    """The fraction of one of the ways of lots."""
    place = reader.ahead().place
    share = read_fraction(reader)
    if share[0] < 0:
        raise Fault(NUMBER_TOO_SMALL, place)
    return share


def read_worth(reader):
    worth = Tree(WORTH)
    worth.amount = read_fraction(reader)
    return worth


def read_add(reader, outside):
    more = Tree(ADD)
    reader.take("add")
    reader.take("(")
    more.amount = read_fraction(reader)
    reader.take(",")
    more.ways.append(read_tree(reader, outside + 1))
    reader.take(")")
    return more


def read_lots(reader, outside):
    lots = Tree(LOTS)
    place = reader.take("pick").place
    reader.take("(")
    going_on = True
    while going_on:
        if len(lots.ways) == MOST_WAYS and begins_tree(reader.ahead()):
            reader.refuse(TOO_MANY)
        lots.ways.append(read_tree(reader, outside + 1))
        reader.take(":")
        lots.shares.append(read_share(reader))
        going_on = reader.goes_on(len(lots.ways))
    if all([share[0] == 0 for share in lots.shares]):
        raise Fault(NO_CHANCE, place)
    return lots


def read_station(reader, outside):
    station = Tree(STATION)
    reader.take("if")
    name = reader.take_name()
    station.name = name.text
    station.place = name.place
    reader.take("(")
    going_on = True
    while going_on:
        if len(station.ways) == MOST_WAYS and is_name(reader.ahead()):
            reader.refuse(TOO_MANY)
        label = reader.take_name()
        station.labels.append(label.text)
        station.label_places.append(label.place)
        reader.take(":")
        station.ways.append(read_tree(reader, outside + 1))
        going_on = reader.goes_on(len(station.ways))
    return station


def read_tree(reader, outside):
    """The tree that begins here, inside so many others."""
    if outside == DEEPEST:
        reader.refuse(TOO_MANY)
    first = reader.ahead().text
    if first == "add":
        return read_add(reader, outside)
    if first == "pick":
        return read_lots(reader, outside)
    if first == "if":
        return read_station(reader, outside)
    return read_worth(reader)


def read_title_and_tree(tokens):
    """The title and the tree that the tokens of a whole text tell."""
    reader = Reader(tokens)
    reader.take("chance")
    title = reader.take_name().text
    reader.take("tell")
    tree = read_tree(reader, 0)
    reader.take_end()
    return (title, tree)
