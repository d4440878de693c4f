"""The calls on a game, and their answers."""

from lotsandchoices.courses import Courses, is_above, outcomes_of, spread_of, total_of, worth_of_total
from lotsandchoices.fault import FORM_TOO_LONG, Fault, TEXT_TOO_LONG
from lotsandchoices.form import one_form
from lotsandchoices.grammar import read_title_and_tree
from lotsandchoices.knowing import TooLarge, worth_knowing_places, worths_knowing_lots
from lotsandchoices.stations import is_policy, number_stations, policy_at, policy_count
from lotsandchoices.tree import in_text_order
from lotsandchoices.words import bytes_of, tokens_of

LONGEST_TEXT = 4096
MOST_POLICIES = 2048

LOAD = 0

NO_GAME = -1
NO_SUCH_NUMBER = -2
NO_POLICY = -5
TOO_LARGE = -8
TOO_MANY_POLICIES = -9


class Line:
    """A list of calls, gone through from its beginning, and the game that is held meanwhile."""

    def __init__(self, calls):
        self.calls = calls
        self.at = 0
        self.game = None

    def ended(self):
        return self.at == len(self.calls)

    def take_number(self):
        self.at += 1
        return self.calls[self.at - 1]

    def take_row(self):
        many = self.take_number()
        self.at += many
        return self.calls[self.at - many:self.at]


class Game:
    """The game that a text tells; kept holds its answers to the calls that ask nothing more, by their numbers."""

    def __init__(self, text):
        if len(text) > LONGEST_TEXT:
            raise Fault(TEXT_TOO_LONG, LONGEST_TEXT)
        title_and_tree = read_title_and_tree(tokens_of(text))
        self.tree = title_and_tree[1]
        self.stations = number_stations(self.tree)
        self.form = bytes_of(one_form(title_and_tree[0], self.tree))
        if len(self.form) > LONGEST_TEXT:
            raise Fault(FORM_TOO_LONG, 0)
        self.courses = Courses(self.tree)
        self.kept = {}


def counted(row):
    """A list with its length before it."""
    return [len(row)] + row


def load(line, text):
    try:
        game = Game(text)
    except Fault as fault:
        return [0, fault.code, fault.place]
    line.game = game
    return [1]


def shown(game):
    return counted(game.form)


def sizes(game):
    return [len(in_text_order(game.tree)), len(game.stations), policy_count(game.stations)]


def station(game, number):
    if not 0 <= number < len(game.stations):
        return [NO_SUCH_NUMBER]
    asked = game.stations[number]
    told = [1] + counted(bytes_of(asked.name)) + [asked.places, len(asked.labels)]
    for label in asked.labels:
        told.extend(counted(bytes_of(label)))
    return told


def worth(game, choices):
    return [1] + list(worth_of_total(game.courses, total_of(game.courses, choices)))


def listed(worths):
    """The numbers of a list of worths and their chances."""
    told = []
    for amount, chance in worths:
        told.extend(amount + chance)
    return told


def outcomes(game, choices):
    found = outcomes_of(game.courses, choices)
    return [len(found)] + listed(found)


def spread(game, choices):
    return [1] + list(spread_of(game.courses, choices))


def has_too_many_policies(game):
    return policy_count(game.stations) > MOST_POLICIES


def totals_of_policies(game):
    """The totals of all policies, in their order."""
    many = policy_count(game.stations)
    return [total_of(game.courses, policy_at(game.stations, number)) for number in range(many)]


def those_of_total(game, totals, total):
    """How many policies come to a total, the worth that it tells, and the first of these policies."""
    first = policy_at(game.stations, totals.index(total))
    return [totals.count(total)] + list(worth_of_total(game.courses, total)) + first


def best(game):
    if has_too_many_policies(game):
        return [TOO_MANY_POLICIES]
    totals = totals_of_policies(game)
    return those_of_total(game, totals, max(totals))


def worst(game):
    if has_too_many_policies(game):
        return [TOO_MANY_POLICIES]
    totals = totals_of_policies(game)
    return those_of_total(game, totals, min(totals))


def free(game):
    return [1] + list(worth_knowing_places(game.courses))


def seen(game):
    try:
        worth_and_list = worths_knowing_lots(game.courses)
    except TooLarge:
        return [TOO_LARGE]
    found = worth_and_list[1]
    return [len(found)] + list(worth_and_list[0]) + listed(found)


def above(game, choices, others):
    return [1 if is_above(game.courses, choices, others) else 0]


def policy(game, number):
    if has_too_many_policies(game):
        return [TOO_MANY_POLICIES]
    if not 0 <= number < policy_count(game.stations):
        return [NO_SUCH_NUMBER]
    return counted(policy_at(game.stations, number))


# The calls by their numbers, but load: those that ask nothing more, those with a number, with a policy, with two.
OF_GAME = {1: shown, 2: sizes, 7: best, 8: worst, 9: free, 10: seen}
OF_NUMBER = {3: station, 12: policy}
OF_POLICY = {4: worth, 5: outcomes, 6: spread}
OF_POLICIES = {11: above}


def given(line, call):
    """What stands behind the number of a call, as a list; it is taken even if the call is refused."""
    if call in OF_NUMBER:
        return [line.take_number()]
    if call in OF_POLICIES:
        return [line.take_row(), line.take_row()]
    if call == LOAD or call in OF_POLICY:
        return [line.take_row()]
    return []


def of_game(game, call):
    # Kept, since some of these take long, and a game does not change.
    if call not in game.kept:
        game.kept[call] = OF_GAME[call](game)
    return game.kept[call]


def of_policies(game, call, policies):
    if not all([is_policy(choices, game.stations) for choices in policies]):
        return [NO_POLICY]
    if call in OF_POLICY:
        return OF_POLICY[call](game, policies[0])
    return OF_POLICIES[call](game, policies[0], policies[1])


def answer(line):
    """The answer to the next call of a line."""
    call = line.take_number()
    asked = given(line, call)
    if call == LOAD:
        return load(line, asked[0])
    if line.game is None:
        return [NO_GAME]
    if call in OF_GAME:
        return of_game(line.game, call)
    if call in OF_NUMBER:
        return OF_NUMBER[call](line.game, asked[0])
    return of_policies(line.game, call, asked)


def answers(calls):
    """For each call of a list, on an object that is new, how many numbers are answered, and these."""
    line = Line(calls)
    told = []
    while not line.ended():
        told.extend(counted(answer(line)))
    return told
