"""Promise 5: with an amount added to the whole tree all worths are that much more, and the best policies the same."""

import unittest
from fractions import Fraction

from tests.support import (
    BOX, UMBRELLA, above, ask_of, best, free, outcomes, policies_of, policy, seen, seen_told, sizes, spread, told,
    worst, worth, worths_told,
)

GAMES = (
    UMBRELLA,
    BOX,
    told("7/3"),
    told("pick(1/2 : 1, -3 : 2, 8 : 0)"),
    told("if S(a : 1, b : 3, c : 3, d : -1, e : -1)"),
    told("if S(a : if S(a : 1, b : 100), b : pick(2 : 1, 0 : 3))"),
    told("add(1/7, pick(if S(a : 1/2, b : pick(1 : 1/9, 2 : 2)) : 5, add(-1/3, if T(x : 0, y : -4, z : 0)) : 3/2))"),
    told("pick(if S(a : 6, b : 0) : 1, if S(a : 0, b : 5) : 1, if T(a : 1, b : pick(4 : 1, 2 : 1), c : 3) : 0)"),
)
AMOUNTS = (Fraction(0), Fraction(1), Fraction(-3, 7), Fraction(10 ** 9), Fraction(-10 ** 9), Fraction(-1, 10 ** 9))


def added(text, amount):
    return text.replace("tell ", f"tell add({amount}, ", 1) + ")"


def shifted(found, amount):
    return [(value + amount, chance) for value, chance in found]


# Each game with each amount, and the game with that amount added.
CASES = [(text, amount, added(text, amount)) for text in GAMES for amount in AMOUNTS]


class Added(unittest.TestCase):
    def test_best_and_worst(self):
        for text, amount, more in CASES:
            with self.subTest(text=text, amount=amount):
                for before, behind in zip(ask_of(text, best(), worst()), ask_of(more, best(), worst())):
                    self.assertEqual(Fraction(*behind[1:3]), Fraction(*before[1:3]) + amount)
                    self.assertEqual([behind[0]] + behind[3:], [before[0]] + before[3:])

    def test_free_and_seen(self):
        for text, amount, more in CASES:
            with self.subTest(text=text, amount=amount):
                places, lots = ask_of(text, free(), seen())
                places_more, lots_more = ask_of(more, free(), seen())
                self.assertEqual(Fraction(*places_more[1:]), Fraction(*places[1:]) + amount)
                mean, found = seen_told(lots)
                self.assertEqual(seen_told(lots_more), (mean + amount, shifted(found, amount)))

    def test_every_policy(self):
        for text, amount, more in CASES:
            with self.subTest(text=text, amount=amount):
                for choices in policies_of(text):
                    asked = (worth(*choices), outcomes(*choices), spread(*choices))
                    mean, found, width = ask_of(text, *asked)
                    mean_more, found_more, width_more = ask_of(more, *asked)
                    self.assertEqual(Fraction(*mean_more[1:]), Fraction(*mean[1:]) + amount)
                    self.assertEqual(worths_told(found_more), shifted(worths_told(found), amount))
                    self.assertEqual(width_more, width)

    def test_what_tells_no_worths_is_the_same(self):
        for text, amount, more in CASES:
            with self.subTest(text=text, amount=amount):
                policies = policies_of(text)
                self.assertEqual(policies_of(more), policies)
                asked = [above(first, second) for first in policies for second in policies]
                asked += [policy(number) for number in range(len(policies) + 1)]
                self.assertEqual(ask_of(more, *asked), ask_of(text, *asked))
                self.assertEqual(ask_of(more, sizes())[0][0], ask_of(text, sizes())[0][0] + 1)


if __name__ == "__main__":
    unittest.main()
