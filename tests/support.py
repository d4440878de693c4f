"""What the tests share: calls, their answers, and a reckoning of trees of its own with Python's fractions."""

from fractions import Fraction

from lotsandchoices.game import answers

UMBRELLA = "chance Umbrella tell pick(if take(yes : 5, no : 0) : 1/3, if take(yes : -1, no : 2) : 2/3)"
BOX = "chance Box tell if guess(a : pick(1 : 1, 0 : 1), b : pick(1 : 1, 0 : 3))"

LIMIT = 10 ** 18

NO_NAMES = (
    "chance budget def let observe tell table net flag num if flip pick uniform given weigh true false"
).split()


def to_bytes(text):
    return list(text.encode("latin-1")) if isinstance(text, str) else list(text)


def row(numbers):
    return [len(numbers)] + list(numbers)


def load(text):
    return [0] + row(to_bytes(text))


def shown():
    return [1]


def sizes():
    return [2]


def station(number):
    return [3, number]


def worth(*policy):
    return [4] + row(policy)


def outcomes(*policy):
    return [5] + row(policy)


def spread(*policy):
    return [6] + row(policy)


def split(told):
    """The answers of a line, one list each."""
    parts = []
    at = 0
    while at < len(told):
        parts.append(told[at + 1:at + 1 + told[at]])
        at += 1 + told[at]
    return parts


def ask(*calls):
    """The answers to these calls on one new object."""
    return split(answers(sum(calls, [])))


def ask_of(text, *calls):
    """The answers to these calls on a game, which must be one."""
    told = ask(load(text), *calls)
    if told[0] != [1]:
        raise AssertionError(f"no game: {told[0]} of {text!r}")
    return told[1:]


def form_of(text):
    """What shown tells of a game, as a text."""
    told = ask_of(text, shown())[0]
    if told[0] != len(told) - 1:
        raise AssertionError("shown tells a wrong length")
    return bytes(told[1:]).decode("ascii")


def fault_of(text):
    """The code and the place of the fault that load finds."""
    told = ask(load(text))[0]
    if told[0] != 0 or len(told) != 3:
        raise AssertionError(f"no fault: {told}")
    return tuple(told[1:])


def worths_told(answer):
    """The worths and chances of an answer of outcomes, as fractions."""
    numbers = answer[1:]
    if len(numbers) != 4 * answer[0]:
        raise AssertionError("outcomes tell a wrong count")
    return [
        (Fraction(numbers[at], numbers[at + 1]), Fraction(numbers[at + 2], numbers[at + 3]))
        for at in range(0, len(numbers), 4)
    ]


def pair(fraction):
    return [fraction.numerator, fraction.denominator]


# Trees of the tests: ("worth", F), ("add", F, tree), ("pick", [(tree, F), ..]), ("if", name, [(label, tree), ..]).


def tree_text(tree):
    """A tree in its one form."""
    if tree[0] == "worth":
        return str(tree[1])
    if tree[0] == "add":
        return f"add({tree[1]}, {tree_text(tree[2])})"
    if tree[0] == "pick":
        return "pick(" + ", ".join(f"{tree_text(way)} : {share}" for way, share in tree[1]) + ")"
    return f"if {tree[1]}(" + ", ".join(f"{label} : {tree_text(way)}" for label, way in tree[2]) + ")"


def ways_of(tree):
    if tree[0] == "worth":
        return []
    if tree[0] == "add":
        return [tree[2]]
    if tree[0] == "pick":
        return [way for way, share in tree[1]]
    return [way for label, way in tree[2]]


def tree_count(tree):
    return 1 + sum(tree_count(way) for way in ways_of(tree))


def station_labels(tree, found=None):
    """The labels of each station by its name, in the order of the text."""
    found = {} if found is None else found
    if tree[0] == "if":
        found.setdefault(tree[1], [label for label, way in tree[2]])
    for way in ways_of(tree):
        station_labels(way, found)
    return found


def expected(tree, choices):
    """The expected worth place by place; choices tells a label's number for each station's name."""
    if tree[0] == "worth":
        return tree[1]
    if tree[0] == "add":
        return tree[1] + expected(tree[2], choices)
    if tree[0] == "if":
        return expected(tree[2][choices[tree[1]]][1], choices)
    together = sum(share for way, share in tree[1])
    return sum(share * expected(way, choices) for way, share in tree[1]) / together


def comes_to(tree, choices):
    """The chances of all worths that may come out."""
    if tree[0] == "worth":
        return {tree[1]: Fraction(1)}
    if tree[0] == "add":
        return {worth + tree[1]: chance for worth, chance in comes_to(tree[2], choices).items()}
    if tree[0] == "if":
        return comes_to(tree[2][choices[tree[1]]][1], choices)
    together = sum(share for way, share in tree[1])
    found = {}
    for way, share in tree[1]:
        for worth, chance in comes_to(way, choices).items():
            found[worth] = found.get(worth, 0) + chance * share / together
    return {worth: chance for worth, chance in found.items() if chance > 0}
