"""Many games made by a fixed rule, against the tests' own reckoning (promises 1 to 6)."""

import random
import re
import unittest
from fractions import Fraction

from lotsandchoices.game import answers
from tests.support import (
    above, all_policies, ask_of, best, comes_to, draw_count, expected, form_of, free, knowing_lots, knowing_places,
    load, most_pairs, outcomes, pair, policy, seen, seen_told, sizes, split, spread, station_labels, tree_count,
    tree_text, worst, worth,
)

LABELS = {"Door": ["left", "right"], "add": ["x", "y", "z"], "go": ["now", "later"], "Go": ["add", "b", "c", "d"]}
WORTHS = [Fraction(n, d) for n in range(-3, 4) for d in (1, 2, 3)]
SHARES = [Fraction(n, d) for n in (0, 1, 1, 2, 5, 999999937) for d in (1, 3, 4, 1000000000)]


def made(rule, depth):
    """A tree at most so deep."""
    kind = rule.choice(["worth", "add", "pick", "pick", "if", "if"]) if depth > 1 else "worth"
    if kind == "worth":
        return ("worth", rule.choice(WORTHS))
    if kind == "add":
        return ("add", rule.choice(WORTHS), made(rule, depth - 1))
    if kind == "pick":
        ways = [(made(rule, depth - 1), rule.choice(SHARES)) for k in range(rule.choice([1, 1, 2, 3]))]
        return ("pick", ways + [(made(rule, depth - 1), Fraction(1, 2))])
    name = rule.choice(sorted(LABELS))
    return ("if", name, [(label, made(rule, depth - 1)) for label in LABELS[name]])


def games(many):
    """Trees and their one forms."""
    found = []
    for seed in range(many):
        tree = made(random.Random(seed), 2 + seed % 4)
        form = f"chance Game{seed}\ntell {tree_text(tree)}\n"
        if len(form) <= 1500:
            found.append((tree, form))
    return found


def loosened(form, rule):
    """The same game with its fractions in other terms, and other blanks and remarks between the tokens."""

    def other_terms(match):
        fraction = Fraction(match[0])
        factor = rule.choice([1, 1, 2, 6])
        if max(abs(fraction.numerator), fraction.denominator) * factor > 1000000000:
            return match[0]
        return f"{fraction.numerator * factor}/{fraction.denominator * factor}"

    text = re.sub(r"(?<![A-Za-z0-9])-?[0-9]+(/[0-9]+)?", other_terms, form)
    loose = ""
    for token in re.findall(r"-?[0-9]+|[A-Za-z][A-Za-z0-9]*|[^ \n]", text):
        blanks = rule.choice(["", "", " ", "\t", "\n", " \n ", "#\n", "# : \xe4 1\n"])
        if blanks == "" and loose[-1:].isalnum() and token[0].isalnum():
            blanks = " "
        loose += blanks + token
    return loose + rule.choice(["", "\n", "# end"])


def is_above(first, second):
    """Of two chances of worths, whether the first are no less for each worth and all above it."""
    for bound in list(first) + list(second):
        chances = [sum(chance for value, chance in each.items() if value >= bound) for each in (first, second)]
        if chances[0] < chances[1]:
            return False
    return True


def wide(rule, depth):
    """A tree of stations and lots that have many worths."""
    if depth == 0:
        ways = [(("worth", Fraction(rule.randrange(200))), rule.choice(SHARES)) for k in range(rule.randrange(2, 8))]
        return ("pick", ways + [(("worth", Fraction(rule.randrange(200))), Fraction(1))])
    inner = [wide(rule, depth - 1) for k in range(rule.choice([2, 2, 3, 4]))]
    if rule.random() < 0.45:
        return ("add", Fraction(rule.randrange(-40, 40)), ("if", f"S{len(inner)}", list(zip("abcd", inner))))
    return ("pick", list(zip(inner, [Fraction(1)] + [Fraction(rule.choice([0, 1, 2, 3])) for way in inner])))


class ManyGames(unittest.TestCase):
    def test_shown_and_sizes(self):
        rule = random.Random(0)
        for tree, form in games(300):
            text = loosened(form, rule)
            many = 1
            for labels in station_labels(tree).values():
                many *= len(labels)
            with self.subTest(text=text):
                self.assertEqual(form_of(text), form)
                self.assertEqual(form_of(form), form)
                self.assertEqual(ask_of(text, sizes()), [[tree_count(tree), len(station_labels(tree)), many]])

    def test_worth_outcomes_and_spread(self):
        for tree, form in games(300):
            for choices, numbers in all_policies(tree)[:12]:
                found = comes_to(tree, choices)
                mean = expected(tree, choices)
                width = sum(value ** 2 * chance for value, chance in found.items()) - mean ** 2
                told = [len(found)]
                for value in sorted(found):
                    told += pair(value) + pair(found[value])
                with self.subTest(form=form, policy=numbers):
                    self.assertEqual(
                        ask_of(form, worth(*numbers), outcomes(*numbers), spread(*numbers)),
                        [[1] + pair(mean), told, [1] + pair(width)],
                    )

    def test_best_worst_and_policy(self):
        for tree, form in games(300):
            policies = all_policies(tree)
            worths = [expected(tree, choices) for choices, numbers in policies]
            answers_told = []
            for value in (max(worths), min(worths)):
                first = policies[worths.index(value)][1]
                answers_told.append([worths.count(value)] + pair(value) + first)
            number = len(form) % len(policies)
            answers_told.append([len(policies[number][1])] + policies[number][1])
            with self.subTest(form=form):
                self.assertEqual(ask_of(form, best(), worst(), policy(number)), answers_told)

    def test_free_and_seen(self):
        for tree, form in games(300):
            most, places = ask_of(form, best(), free())
            with self.subTest(form=form):
                self.assertEqual(places, [1] + pair(knowing_places(tree)))
                self.assertLessEqual(Fraction(*most[1:3]), knowing_places(tree))
                if form.count("if ") == len(station_labels(tree)):
                    self.assertEqual(most[1:3], places[1:])
            if draw_count(tree) > 3000:
                continue
            found = knowing_lots(tree)
            mean = sum(value * chance for value, chance in found.items())
            told = [len(found)] + pair(mean)
            for value in sorted(found):
                told += pair(value) + pair(found[value])
            with self.subTest(form=form):
                self.assertEqual(ask_of(form, seen()), [told])
                self.assertLessEqual(knowing_places(tree), mean)

    def test_seen_of_many_worths(self):
        refused = 0
        for seed in range(120):
            tree = wide(random.Random(seed), 1 + seed % 4)
            form = f"chance Wide tell {tree_text(tree)}"
            if len(form) > 4000:
                continue
            values, pairs = most_pairs(tree)
            answer = ask_of(form, seen())[0]
            with self.subTest(form=form):
                self.assertEqual(answer == [-8], pairs > 512)
                if answer == [-8]:
                    refused += 1
                    continue
                mean, found = seen_told(answer)
                self.assertEqual([value for value, chance in found], sorted(values))
                self.assertEqual(sum(chance for value, chance in found), 1)
                self.assertEqual(sum(value * chance for value, chance in found), mean)
                self.assertLessEqual(knowing_places(tree), mean)
        self.assertGreater(refused, 10)

    def test_above(self):
        for tree, form in games(200):
            policies = all_policies(tree)[:6]
            found = [comes_to(tree, choices) for choices, numbers in policies]
            for first, mine in zip(policies, found):
                told = ask_of(form, *[above(first[1], second[1]) for second in policies])
                with self.subTest(form=form, policy=first):
                    self.assertEqual(told, [[1 if is_above(mine, yours) else 0] for yours in found])
                for second, answer in zip(policies, told):
                    if answer == [1]:
                        self.assertGreaterEqual(expected(tree, first[0]), expected(tree, second[0]))

    def test_one_line_of_many_games(self):
        line, told = [], []
        for tree, form in games(60):
            choices, numbers = all_policies(tree)[-1]
            line += load(form) + worth(*numbers)
            told += [[1], [1] + pair(expected(tree, choices))]
            if len(line) > 15000:
                break
        self.assertEqual(split(answers(line)), told)


if __name__ == "__main__":
    unittest.main()
