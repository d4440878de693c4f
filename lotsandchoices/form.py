"""The one form in which a game is shown."""

from lotsandchoices.ratio import written
from lotsandchoices.tree import ADD, LOTS, WORTH


def ways_form(lefts, rights):
    """The ways of lots or a station in their brackets, each with a left and a right side of its : sign."""
    ways = [f"{left} : {right}" for left, right in zip(lefts, rights)]
    return "(" + ", ".join(ways) + ")"


def tree_form(tree):
    if tree.kind == WORTH:
        return written(tree.amount)
    inner = [tree_form(way) for way in tree.ways]
    if tree.kind == ADD:
        return "add(" + written(tree.amount) + ", " + inner[0] + ")"
    if tree.kind == LOTS:
        return "pick" + ways_form(inner, [written(share) for share in tree.shares])
    return "if " + tree.name + ways_form(tree.labels, inner)


def one_form(title, tree):
    told = tree_form(tree)
    return f"chance {title}\ntell {told}\n"
