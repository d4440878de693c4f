"""Many games made by a fixed rule, against the tests' own reckoning (promises 1, 2 and 6)."""

import random
import re
import unittest
from fractions import Fraction
from itertools import islice, product

from lotsandchoices.game import answers
from tests.support import (
    ask_of, comes_to, expected, form_of, load, outcomes, pair, sizes, split, spread, station_labels, tree_count,
    tree_text, worth,
)

LABELS = {"Door": ["left", "right"], "add": ["x", "y", "z"], "go": ["now", "later"], "Go": ["add", "b", "c", "d"]}
WORTHS = [Fraction(n, d) for n in range(-3, 4) for d in (1, 2, 3)]
SHARES = [Fraction(n, d) for n in (0, 1, 1, 2, 5, 999999937) for d in (1, 3, 4, 1000000000)]


def made(rule, depth):
    """A tree at most so deep."""
    kind = rule.choice(["worth", "add", "pick", "pick", "if", "if"]) if depth > 1 else "worth"
    if kind == "worth":
        return ("worth", rule.choice(WORTHS))
    if kind == "add":
        return ("add", rule.choice(WORTHS), made(rule, depth - 1))
    if kind == "pick":
        ways = [(made(rule, depth - 1), rule.choice(SHARES)) for k in range(rule.choice([1, 1, 2, 3]))]
        return ("pick", ways + [(made(rule, depth - 1), Fraction(1, 2))])
    name = rule.choice(sorted(LABELS))
    return ("if", name, [(label, made(rule, depth - 1)) for label in LABELS[name]])


def games(many):
    """Trees and their one forms."""
    found = []
    for seed in range(many):
        tree = made(random.Random(seed), 2 + seed % 4)
        form = f"chance Game{seed}\ntell {tree_text(tree)}\n"
        if len(form) <= 1500:
            found.append((tree, form))
    return found


def loosened(form, rule):
    """The same game with its fractions in other terms, and other blanks and remarks between the tokens."""

    def other_terms(match):
        fraction = Fraction(match[0])
        factor = rule.choice([1, 1, 2, 6])
        if max(abs(fraction.numerator), fraction.denominator) * factor > 1000000000:
            return match[0]
        return f"{fraction.numerator * factor}/{fraction.denominator * factor}"

    text = re.sub(r"(?<![A-Za-z0-9])-?[0-9]+(/[0-9]+)?", other_terms, form)
    loose = ""
    for token in re.findall(r"-?[0-9]+|[A-Za-z][A-Za-z0-9]*|[^ \n]", text):
        blanks = rule.choice(["", "", " ", "\t", "\n", " \n ", "#\n", "# : \xe4 1\n"])
        if blanks == "" and loose[-1:].isalnum() and token[0].isalnum():
            blanks = " "
        loose += blanks + token
    return loose + rule.choice(["", "\n", "# end"])


def first_policies(tree):
    """The first policies of a tree, each as names to numbers and as numbers."""
    labels = station_labels(tree)
    numbers = islice(product(*[range(len(each)) for each in labels.values()]), 12)
    return [(dict(zip(labels, each)), each) for each in numbers]


class ManyGames(unittest.TestCase):
    def test_shown_and_sizes(self):
        rule = random.Random(0)
        for tree, form in games(300):
            text = loosened(form, rule)
            many = 1
            for labels in station_labels(tree).values():
                many *= len(labels)
            with self.subTest(text=text):
                self.assertEqual(form_of(text), form)
                self.assertEqual(form_of(form), form)
                self.assertEqual(ask_of(text, sizes()), [[tree_count(tree), len(station_labels(tree)), many]])

    def test_worth_outcomes_and_spread(self):
        for tree, form in games(300):
            for choices, numbers in first_policies(tree):
                found = comes_to(tree, choices)
                mean = expected(tree, choices)
                width = sum(value ** 2 * chance for value, chance in found.items()) - mean ** 2
                told = [len(found)]
                for value in sorted(found):
                    told += pair(value) + pair(found[value])
                with self.subTest(form=form, policy=numbers):
                    self.assertEqual(
                        ask_of(form, worth(*numbers), outcomes(*numbers), spread(*numbers)),
                        [[1] + pair(mean), told, [1] + pair(width)],
                    )

    def test_one_line_of_many_games(self):
        line, told = [], []
        for tree, form in games(60):
            choices, numbers = first_policies(tree)[-1]
            line += load(form) + worth(*numbers)
            told += [[1], [1] + pair(expected(tree, choices))]
            if len(line) > 15000:
                break
        self.assertEqual(split(answers(line)), told)


if __name__ == "__main__":
    unittest.main()
