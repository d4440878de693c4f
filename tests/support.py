"""What the tests share: calls, their answers, and a reckoning of trees of its own with Python's fractions."""

from fractions import Fraction
from itertools import product

from lotsandchoices.game import answers

UMBRELLA = "chance Umbrella tell pick(if take(yes : 5, no : 0) : 1/3, if take(yes : -1, no : 2) : 2/3)"
BOX = "chance Box tell if guess(a : pick(1 : 1, 0 : 1), b : pick(1 : 1, 0 : 3))"

LIMIT = 10 ** 18

NO_NAMES = (
    "chance budget def let observe tell table net flag num if flip pick uniform given weigh true false"
).split()


def to_bytes(text):
    return list(text.encode("latin-1")) if isinstance(text, str) else list(text)


def row(numbers):
    return [len(numbers)] + list(numbers)


def load(text):
    return [0] + row(to_bytes(text))


def shown():
    return [1]


def sizes():
    return [2]


def station(number):
    return [3, number]


def worth(*policy):
    return [4] + row(policy)


def outcomes(*policy):
    return [5] + row(policy)


def spread(*policy):
    return [6] + row(policy)


def best():
    return [7]


def worst():
    return [8]


def free():
    return [9]


def seen():
    return [10]


def above(first, second):
    return [11] + row(first) + row(second)


def policy(number):
    return [12, number]


def split(told):
    """The answers of a line, one list each."""
    parts = []
    at = 0
    while at < len(told):
        parts.append(told[at + 1:at + 1 + told[at]])
        at += 1 + told[at]
    return parts


def ask(*calls):
    """The answers to these calls on one new object."""
    return split(answers(sum(calls, [])))


def ask_of(text, *calls):
    """The answers to these calls on a game, which must be one."""
    told = ask(load(text), *calls)
    if told[0] != [1]:
        raise AssertionError(f"no game: {told[0]} of {text!r}")
    return told[1:]


def form_of(text):
    """What shown tells of a game, as a text."""
    told = ask_of(text, shown())[0]
    if told[0] != len(told) - 1:
        raise AssertionError("shown tells a wrong length")
    return bytes(told[1:]).decode("ascii")


def fault_of(text):
    """The code and the place of the fault that load finds."""
    told = ask(load(text))[0]
    if told[0] != 0 or len(told) != 3:
        raise AssertionError(f"no fault: {told}")
    return tuple(told[1:])


def worths_told(answer):
    """The worths and chances of an answer of outcomes, as fractions."""
    return worths_of(answer[0], answer[1:])


def seen_told(answer):
    """The expected worth, and the worths and chances, of an answer of seen, as fractions."""
    return Fraction(*answer[1:3]), worths_of(answer[0], answer[3:])


def worths_of(many, numbers):
    if len(numbers) != 4 * many:
        raise AssertionError("a wrong count of worths is told")
    return [
        (Fraction(numbers[at], numbers[at + 1]), Fraction(numbers[at + 2], numbers[at + 3]))
        for at in range(0, len(numbers), 4)
    ]


def pair(fraction):
    return [fraction.numerator, fraction.denominator]


def told(tree):
    """The text of a game with this tree."""
    return "chance T tell " + tree


def policies_of(text):
    """All policies of a game, by the labels that station tells, in their order."""
    many = ask_of(text, sizes())[0][1]
    labels = []
    for number in range(many):
        answer = ask_of(text, station(number))[0]
        labels.append(range(answer[3 + answer[1]]))
    return list(product(*labels))


def spanning(first, last, step=1):
    """Lots, all of one chance within their brackets, with the worths from the first to the last."""
    ways = [str(value) for value in range(first, last + 1, step)]
    while len(ways) > 1:
        groups = [ways[at:at + 8] for at in range(0, len(ways), 8)]
        ways = [
            "pick(" + ", ".join(f"{way} : 1" for way in group) + ")" if len(group) > 1 else group[0]
            for group in groups
        ]
    return ways[0]


# Trees of the tests: ("worth", F), ("add", F, tree), ("pick", [(tree, F), ..]), ("if", name, [(label, tree), ..]).


def tree_text(tree):
    """A tree in its one form."""
    if tree[0] == "worth":
        return str(tree[1])
    if tree[0] == "add":
        return f"add({tree[1]}, {tree_text(tree[2])})"
    if tree[0] == "pick":
        return "pick(" + ", ".join(f"{tree_text(way)} : {share}" for way, share in tree[1]) + ")"
    return f"if {tree[1]}(" + ", ".join(f"{label} : {tree_text(way)}" for label, way in tree[2]) + ")"


def ways_of(tree):
    if tree[0] == "worth":
        return []
    if tree[0] == "add":
        return [tree[2]]
    if tree[0] == "pick":
        return [way for way, share in tree[1]]
    return [way for label, way in tree[2]]


def tree_count(tree):
    return 1 + sum(tree_count(way) for way in ways_of(tree))


def station_labels(tree, found=None):
    """The labels of each station by its name, in the order of the text."""
    found = {} if found is None else found
    if tree[0] == "if":
        found.setdefault(tree[1], [label for label, way in tree[2]])
    for way in ways_of(tree):
        station_labels(way, found)
    return found


def expected(tree, choices):
    """The expected worth place by place; choices tells a label's number for each station's name."""
    if tree[0] == "worth":
        return tree[1]
    if tree[0] == "add":
        return tree[1] + expected(tree[2], choices)
    if tree[0] == "if":
        return expected(tree[2][choices[tree[1]]][1], choices)
    together = sum(share for way, share in tree[1])
    return sum(share * expected(way, choices) for way, share in tree[1]) / together


def comes_to(tree, choices):
    """The chances of all worths that may come out."""
    if tree[0] == "worth":
        return {tree[1]: Fraction(1)}
    if tree[0] == "add":
        return {worth + tree[1]: chance for worth, chance in comes_to(tree[2], choices).items()}
    if tree[0] == "if":
        return comes_to(tree[2][choices[tree[1]]][1], choices)
    together = sum(share for way, share in tree[1])
    found = {}
    for way, share in tree[1]:
        for worth, chance in comes_to(way, choices).items():
            found[worth] = found.get(worth, 0) + chance * share / together
    return {worth: chance for worth, chance in found.items() if chance > 0}


def all_policies(tree):
    """All policies in their order, each as names to numbers and as numbers."""
    labels = station_labels(tree)
    numbers = product(*[range(len(each)) for each in labels.values()])
    return [(dict(zip(labels, each)), list(each)) for each in numbers]


def knowing_places(tree):
    """The expected worth if at each place the better may be chosen."""
    if tree[0] == "worth":
        return tree[1]
    if tree[0] == "add":
        return tree[1] + knowing_places(tree[2])
    if tree[0] == "if":
        return max(knowing_places(way) for way in ways_of(tree))
    together = sum(share for way, share in tree[1])
    return sum(share * knowing_places(way) for way, share in tree[1]) / together


def draws(tree):
    """All that may be drawn: the tree without lots that is left, and the chance of it."""
    if tree[0] == "worth":
        return [(tree, Fraction(1))]
    if tree[0] == "add":
        return [(("add", tree[1], way), chance) for way, chance in draws(tree[2])]
    if tree[0] == "pick":
        together = sum(share for way, share in tree[1])
        return [
            (left, chance * share / together)
            for way, share in tree[1] if share > 0 for left, chance in draws(way)
        ]
    found = []
    for lefts in product(*[draws(way) for way in ways_of(tree)]):
        chance = Fraction(1)
        for left in lefts:
            chance *= left[1]
        found.append((("if", tree[1], [("label", left[0]) for left in lefts]), chance))
    return found


def draw_count(tree):
    """How many trees draws gives back."""
    counts = [draw_count(way) for way in ways_of(tree)]
    if tree[0] == "if":
        many = 1
        for count in counts:
            many *= count
        return many
    return max(1, sum(counts))


def knowing_lots(tree):
    """The chances of all worths that may come out if all lots are drawn beforehand, draw by draw."""
    found = {}
    for left, chance in draws(tree):
        worth = knowing_places(left)
        found[worth] = found.get(worth, 0) + chance
    return found


def most_pairs(tree):
    """The worths that may come out of a tree knowing all lots first, and the most pairs of lists on the way."""
    if tree[0] == "worth":
        return {tree[1]}, 0
    inner = [most_pairs(way) for way in ways_of(tree)]
    most = max(pairs for worths, pairs in inner)
    if tree[0] == "add":
        return {worth + tree[1] for worth in inner[0][0]}, most
    if tree[0] == "pick":
        drawn = [worths for (worths, pairs), (way, share) in zip(inner, tree[1]) if share > 0]
        return set().union(*drawn), most
    found = inner[-1][0]
    for worths, pairs in inner[-2::-1]:
        most = max(most, len(worths) * len(found))
        found = {max(one, other) for one in worths for other in found}
    return found, most
