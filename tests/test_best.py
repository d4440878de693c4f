"""best, worst and policy: promise 3, and the order of the policies."""

import unittest
from fractions import Fraction

from tests.support import (
    BOX, LIMIT, UMBRELLA, ask_of, best, pair, policies_of, policy, sizes, told, worst, worth,
)

UNLIKE = told("pick(if A(x : 1, y : 5, z : 2) : 1, if B(l : 3, r : -2) : 1, if C(p : 0, q : 7, s : 7, t : 4) : 1)")


def stations(*labels):
    """A game with a station for each of these numbers of labels; all stand within one another."""
    tree = "0"
    for number, many in reversed(list(enumerate(labels))):
        ways = [f"l{k} : {k + 1}" for k in range(many - 1)]
        tree = f"if s{number}(" + ", ".join(ways + [f"last : {tree}"]) + ")"
    return told(tree)


class BestAndWorst(unittest.TestCase):
    def assertBest(self, tree, most, least):
        """most and least: how many policies, their worth, and the first of them."""
        numbers = [[many] + pair(Fraction(value)) + list(first) for many, value, first in (most, least)]
        with self.subTest(tree=tree):
            self.assertEqual(ask_of(told(tree), best(), worst()), numbers)

    def test_no_station(self):
        self.assertBest("5", (1, 5, ()), (1, 5, ()))
        self.assertBest("pick(1/2 : 1, -2 : 2)", (1, "-7/6", ()), (1, "-7/6", ()))

    def test_one_policy_each(self):
        self.assertBest("if S(a : 1, b : 3, c : 2)", (1, 3, (1,)), (1, 1, (0,)))
        self.assertBest("if S(a : 3, b : 1, c : 2)", (1, 3, (0,)), (1, 1, (1,)))
        self.assertBest("if S(a : 2, b : 3, c : 1)", (1, 3, (1,)), (1, 1, (2,)))

    def test_several_policies_and_the_first_of_these(self):
        self.assertBest("if S(a : 1, b : 3, c : 3, d : 1, e : 2)", (2, 3, (1,)), (2, 1, (0,)))
        self.assertBest("if S(a : 2, b : 1, c : 3, d : 1, e : 1, f : 3)", (2, 3, (2,)), (3, 1, (1,)))
        # Worth the same by unlike lots.
        tree = "if S(a : 0, b : pick(0 : 1, 4 : 1), c : pick(-1 : 1, 5 : 1), d : 2)"
        self.assertBest(tree, (3, 2, (1,)), (1, 0, (0,)))

    def test_all_worth_the_same(self):
        self.assertBest("if S(a : 1, b : 1)", (2, 1, (0,)), (2, 1, (0,)))
        tree = "pick(if S(a : 1/3, b : 1/3, c : 1/3) : 1, if T(a : 0, b : 0) : 2)"
        self.assertBest(tree, (6, "1/9", (0, 0)), (6, "1/9", (0, 0)))

    def test_the_first_station_decides_the_order(self):
        # The policies 0 1 and 1 0 are both best; in this order the first station counts more.
        self.assertBest("if S(a : if T(a : 0, b : 9), b : if T(a : 9, b : 0))", (2, 9, (0, 1)), (2, 0, (0, 0)))
        self.assertBest("if S(a : if T(a : 9, b : 0), b : if T(a : 0, b : 9))", (2, 9, (0, 0)), (2, 0, (0, 1)))

    def test_a_station_that_is_not_come_to_counts_all_its_labels(self):
        tree = "if S(a : 5, b : if T(x : 1, y : 2, z : 3))"
        self.assertBest(tree, (3, 5, (0, 0)), (1, 1, (1, 0)))
        self.assertBest("if S(a : -5, b : if T(x : 1, y : 2, z : 3))", (1, 3, (1, 2)), (3, -5, (0, 0)))

    def test_a_station_behind_lots_of_chance_0(self):
        tree = "pick(if S(a : 1, b : 1000000000, c : -7) : 0, if T(a : 1, b : 2) : 1)"
        self.assertBest(tree, (3, 2, (0, 1)), (3, 1, (0, 0)))

    def test_a_station_within_the_way_of_its_own_that_is_never_come_to(self):
        self.assertBest("if S(a : if S(a : 1, b : 100), b : 2)", (1, 2, (1,)), (1, 1, (0,)))
        self.assertBest("if S(a : if S(a : 3, b : -100), b : 2)", (1, 3, (0,)), (1, 2, (1,)))

    def test_stations_at_several_places(self):
        tree = "pick(if S(a : 6, b : 0) : 1, if S(a : 0, b : 5) : 1, if S(a : 0, b : 2) : 1)"
        self.assertBest(tree, (1, "7/3", (1,)), (1, 2, (0,)))
        tree = "pick(if S(a : if T(a : 1, b : 2), b : 0) : 1, if T(a : 3, b : if S(a : -9, b : 1)) : 2)"
        self.assertBest(tree, (1, "7/3", (0, 0)), (1, "-16/3", (0, 1)))

    def test_worths_below_0(self):
        self.assertBest("if S(a : -3, b : -1, c : -2)", (1, -1, (1,)), (1, -3, (0,)))
        self.assertBest("if S(a : add(-5, 1/2), b : add(-5, 1/3))", (1, "-9/2", (0,)), (1, "-14/3", (1,)))
        self.assertBest("if S(a : -1/3, b : -1/2)", (1, "-1/3", (0,)), (1, "-1/2", (1,)))

    def test_differences_that_are_small(self):
        tree = "if S(a : 999999999/1000000000, b : 999999998/999999999, c : 1)"
        self.assertBest(tree, (1, 1, (2,)), (1, "999999998/999999999", (1,)))
        tree = "if S(a : pick(0 : 1/1000000000, 1 : 1), b : pick(0 : 1/999999999, 1 : 1))"
        self.assertBest(tree, (1, "1000000000/1000000001", (0,)), (1, "999999999/1000000000", (1,)))

    def test_amounts_on_the_way_count(self):
        self.assertBest("if S(a : add(10, -9), b : add(-10, 12))", (1, 2, (1,)), (1, 1, (0,)))
        self.assertBest("add(1/2, if S(a : add(1/2, 1), b : 2))", (1, "5/2", (1,)), (1, 2, (0,)))


class Promised(unittest.TestCase):
    TREES = (
        "if S(a : if T(x : 1, y : 2), b : if T(x : 4, y : -3), c : 4)",
        "pick(if S(a : 6, b : 0, c : 3) : 1/3, if T(a : 0, b : 5) : 1/7, if S(a : 0, b : 2, c : 2) : 1/2)",
        "add(-3/2, pick(if S(a : 1, b : 1) : 1, add(1/3, if T(a : 1/9, b : -1/9)) : 0, if U(a : 2, b : 3) : 5))",
        "if S(a : if S(a : 1, b : 2), b : pick(if S(a : 3, b : 4) : 1, if R(a : 5, b : 6, c : 3) : 3))",
        "pick(1 : 1, 2 : 1)",
    )

    def test_against_the_worth_of_every_policy(self):
        for text in (UMBRELLA, BOX, UNLIKE) + tuple(told(tree) for tree in self.TREES):
            policies = policies_of(text)
            answers = ask_of(text, best(), worst(), *[worth(*choices) for choices in policies])
            worths = [Fraction(*answer[1:]) for answer in answers[2:]]
            for answer, value in zip(answers, (max(worths), min(worths))):
                with self.subTest(text=text, value=value):
                    first = policies[worths.index(value)]
                    self.assertEqual(answer, [worths.count(value)] + pair(value) + list(first))


class Policy(unittest.TestCase):
    def test_every_number_in_order(self):
        for text in (UMBRELLA, BOX, UNLIKE, stations(2, 3), stations(3, 2, 4, 2), stations(8), told("1")):
            policies = policies_of(text)
            with self.subTest(text=text):
                self.assertEqual(ask_of(text, sizes())[0][2], len(policies))
                self.assertEqual(
                    ask_of(text, *[policy(number) for number in range(len(policies))]),
                    [[len(choices)] + list(choices) for choices in policies],
                )

    def test_written_out(self):
        told = ask_of(stations(2, 3), *[policy(number) for number in range(7)])
        self.assertEqual(told, [[2, 0, 0], [2, 0, 1], [2, 0, 2], [2, 1, 0], [2, 1, 1], [2, 1, 2], [-2]])
        told = ask_of(stations(3, 2), *[policy(number) for number in range(7)])
        self.assertEqual(told, [[2, 0, 0], [2, 0, 1], [2, 1, 0], [2, 1, 1], [2, 2, 0], [2, 2, 1], [-2]])

    def test_no_station(self):
        self.assertEqual(ask_of(told("1"), policy(0), policy(1), policy(-1)), [[0], [-2], [-2]])

    def test_no_such_number(self):
        for text, many in ((UMBRELLA, 2), (UNLIKE, 24), (stations(2, 3), 6), (stations(8, 8), 64)):
            for number in (-1, -2, -many, many, many + 1, 2048, 2049, LIMIT, -LIMIT):
                self.assertEqual(ask_of(text, policy(number)), [[-2]], f"{text} {number}")

    def test_each_is_a_policy(self):
        for text in (UNLIKE, stations(3, 2, 4)):
            for number in range(24):
                choices = ask_of(text, policy(number))[0][1:]
                self.assertEqual(ask_of(text, worth(*choices))[0][0], 1)

    def test_best_and_worst_stand_where_policy_tells(self):
        policies = [ask_of(UNLIKE, policy(number))[0][1:] for number in range(24)]
        worths = [ask_of(UNLIKE, worth(*choices))[0] for choices in policies]
        most, least = ask_of(UNLIKE, best(), worst())
        self.assertEqual(policies.index(most[3:]), worths.index([1] + most[1:3]))
        self.assertEqual(policies.index(least[3:]), worths.index([1] + least[1:3]))


class TooManyPolicies(unittest.TestCase):
    def test_2048_policies(self):
        for labels in ([2] * 11, [8, 8, 8, 4], [4, 8, 8, 8], [2, 4, 4, 8, 8]):
            text = stations(*labels)
            with self.subTest(labels=labels):
                answers = ask_of(text, sizes(), best(), worst(), policy(0), policy(2047), policy(2048), policy(-1))
                self.assertEqual(answers[0][2], 2048)
                zeros, lasts = [0] * len(labels), [many - 1 for many in labels]
                # The worth 0 stands behind all last labels, the greatest behind the last but one of the most.
                self.assertEqual(answers[2], [1, 0, 1] + lasts)
                self.assertEqual(answers[1][1:3], [max(labels) - 1, 1])
                self.assertEqual(answers[3:], [
                    [len(labels)] + zeros, [len(labels)] + lasts, [-2], [-2],
                ])

    def test_more_policies(self):
        for labels in ([2] * 12, [3] * 7, [8] * 4, [8] * 12, [7, 7, 7, 6], [2] * 10 + [3]):
            text = stations(*labels)
            with self.subTest(labels=labels):
                answers = ask_of(
                    text, best(), worst(), policy(0), policy(1), policy(2048), policy(4095), best(), worst(),
                )
                self.assertEqual(answers, [[-9]] * 8)

    def test_just_below_and_just_above(self):
        # Of 2 to 8 labels a station, the next many policies below 2048 are 2025, the next above 2058.
        text = stations(5, 5, 3, 3, 3, 3)
        self.assertEqual(ask_of(text, sizes(), worst()), [[23, 6, 2025], [1, 0, 1, 4, 4, 2, 2, 2, 2]])
        self.assertEqual(ask_of(text, policy(2024), policy(2025)), [[6, 4, 4, 2, 2, 2, 2], [-2]])
        text = stations(7, 7, 7, 6)
        self.assertEqual(ask_of(text, sizes(), best(), worst(), policy(0)), [[28, 4, 2058], [-9], [-9], [-9]])

    def test_before_no_such_number(self):
        for labels in ([2] * 12, [8] * 12, [8] * 4):
            for number in (-1, LIMIT, -LIMIT, 8 ** 12, 4096, -4096):
                self.assertEqual(ask_of(stations(*labels), policy(number)), [[-9]])

    def test_the_refusal_leaves_the_game(self):
        text = stations(*[2] * 12)
        answers = ask_of(text, best(), worst(), policy(0), worth(*[1] * 12), worth(*[0] * 12))
        self.assertEqual(answers, [[-9], [-9], [-9], [1, 0, 1], [1, 1, 1]])

    def test_the_last_of_2048_policies(self):
        places = [f"if s{k}(a : 0, b : {k + 1})" for k in range(11)]
        tree = "pick(" + ", ".join(f"{place} : 1" for place in places[:7])
        tree += ", pick(" + ", ".join(f"{place} : 1" for place in places[7:]) + ") : 4)"
        self.assertEqual(ask_of(told(tree), best(), worst()), [[1, 6, 1] + [1] * 11, [1, 0, 1] + [0] * 11])


if __name__ == "__main__":
    unittest.main()
