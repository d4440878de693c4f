"""The calls on a game, and their answers."""

from lotsandchoices.courses import Courses, expected_worth, outcomes_of, spread_of
from lotsandchoices.fault import FORM_TOO_LONG, Fault, TEXT_TOO_LONG
from lotsandchoices.form import one_form
from lotsandchoices.grammar import read_title_and_tree
from lotsandchoices.stations import is_policy, number_stations, policy_count
from lotsandchoices.tree import in_text_order
from lotsandchoices.words import bytes_of, tokens_of

LONGEST_TEXT = 4096

LOAD = 0

NO_GAME = -1
NO_SUCH_NUMBER = -2
NO_POLICY = -5


class Line:
    """A list of calls, gone through from its beginning, and the game that is held meanwhile."""

    def __init__(self, calls):
        self.calls = calls
        self.at = 0
        self.game = None

    def ended(self):
        return self.at == len(self.calls)

    def take_number(self):
        self.at += 1
        return self.calls[self.at - 1]

    def take_row(self):
        many = self.take_number()
        self.at += many
        return self.calls[self.at - many:self.at]


class Game:
    """The game that a text tells."""

    def __init__(self, text):
        if len(text) > LONGEST_TEXT:
            raise Fault(TEXT_TOO_LONG, LONGEST_TEXT)
        title_and_tree = read_title_and_tree(tokens_of(text))
        self.tree = title_and_tree[1]
        self.stations = number_stations(self.tree)
        self.form = bytes_of(one_form(title_and_tree[0], self.tree))
        if len(self.form) > LONGEST_TEXT:
            raise Fault(FORM_TOO_LONG, 0)
        self.courses = Courses(self.tree)


def counted(row):
    """A list with its length before it."""
    return [len(row)] + row


def load(line, text):
    try:
        game = Game(text)
    except Fault as fault:
        return [0, fault.code, fault.place]
    line.game = game
    return [1]


def shown(game):
    return counted(game.form)


def sizes(game):
    return [len(in_text_order(game.tree)), len(game.stations), policy_count(game.stations)]


def station(game, number):
    if not 0 <= number < len(game.stations):
        return [NO_SUCH_NUMBER]
    asked = game.stations[number]
    told = [1] + counted(bytes_of(asked.name)) + [asked.places, len(asked.labels)]
    for label in asked.labels:
        told.extend(counted(bytes_of(label)))
    return told


def worth(game, policy):
    return [1] + list(expected_worth(game.courses, policy))


def outcomes(game, policy):
    found = outcomes_of(game.courses, policy)
    told = [len(found)]
    for amount, chance in found:
        told.extend(amount + chance)
    return told


def spread(game, policy):
    return [1] + list(spread_of(game.courses, policy))


# The calls by their numbers, but load: those that ask nothing more, those with a number, those with a policy.
OF_GAME = {1: shown, 2: sizes}
OF_NUMBER = {3: station}
OF_POLICY = {4: worth, 5: outcomes, 6: spread}


def given(line, call):
    """What stands behind the number of a call; it is taken even if the call is refused."""
    if call == LOAD or call in OF_POLICY:
        return line.take_row()
    if call in OF_NUMBER:
        return line.take_number()
    return None


def answer(line):
    """The answer to the next call of a line."""
    call = line.take_number()
    asked = given(line, call)
    if call == LOAD:
        return load(line, asked)
    if line.game is None:
        return [NO_GAME]
    if call in OF_GAME:
        return OF_GAME[call](line.game)
    if call in OF_NUMBER:
        return OF_NUMBER[call](line.game, asked)
    if not is_policy(asked, line.game.stations):
        return [NO_POLICY]
    return OF_POLICY[call](line.game, asked)


def answers(calls):
    """For each call of a list, on an object that is new, how many numbers are answered, and these."""
    line = Line(calls)
    told = []
    while not line.ended():
        told.extend(counted(answer(line)))
    return told
