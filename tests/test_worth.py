"""worth, outcomes and spread: promise 2, and what promise 6 says of spreads."""

import unittest
from fractions import Fraction

from tests.support import BOX, LIMIT, UMBRELLA, ask_of, outcomes, pair, spread, told, worth, worths_told


def all_of(text, *policy):
    """The worth, the outcomes and the spread of a policy."""
    return ask_of(text, worth(*policy), outcomes(*policy), spread(*policy))


class PolicyCase(unittest.TestCase):
    def assertTold(self, tree, policy, expected, found, width):
        """expected and width are fractions or numbers, found a list of worths and chances."""
        numbers = [len(found)]
        for value, chance in found:
            numbers += pair(Fraction(value)) + pair(Fraction(chance))
        with self.subTest(tree=tree, policy=policy):
            self.assertEqual(all_of(told(tree), *policy), [
                [1] + pair(Fraction(expected)), numbers, [1] + pair(Fraction(width)),
            ])


class Reckoned(PolicyCase):
    def test_the_empty_policy(self):
        self.assertTold("5", (), 5, [(5, 1)], 0)
        self.assertTold("-5/10", (), "-1/2", [("-1/2", 1)], 0)
        self.assertTold("0", (), 0, [(0, 1)], 0)

    def test_lots(self):
        self.assertTold("pick(1 : 1, 4 : 2)", (), 3, [(1, "1/3"), (4, "2/3")], 2)
        self.assertTold("pick(4 : 2/3, 1 : 1/3)", (), 3, [(1, "1/3"), (4, "2/3")], 2)
        self.assertTold("pick(4 : 1/5, 1 : 1/10)", (), 3, [(1, "1/3"), (4, "2/3")], 2)

    def test_lots_in_lots(self):
        tree = "pick(pick(0 : 1, 1 : 1) : 1, pick(1 : 1, 2 : 3) : 1)"
        self.assertTold(tree, (), "9/8", [(0, "1/4"), (1, "3/8"), (2, "3/8")], "39/64")

    def test_the_least_first(self):
        self.assertTold(
            "pick(1/2 : 1, -1/3 : 1, 1/3 : 1, -1/2 : 1, 0 : 1, 10 : 1, 9 : 1, -10 : 1)", (), "9/8",
            [(value, "1/8") for value in ("-10", "-1/2", "-1/3", "0", "1/3", "1/2", "9", "10")],
            Fraction(1, 8) * (100 + 81 + 100 + Fraction(13, 18)) - Fraction(81, 64),
        )

    def test_equal_worths_are_one(self):
        self.assertTold("pick(2 : 1, 2 : 2)", (), 2, [(2, 1)], 0)
        self.assertTold("pick(1/2 : 1, 3 : 1, 2/4 : 1)", (), "4/3", [("1/2", "2/3"), (3, "1/3")], "25/18")
        self.assertTold("pick(add(1, 2) : 1, add(2, 1) : 1, add(5/2, 1/2) : 1)", (), 3, [(3, 1)], 0)
        self.assertTold("pick(pick(1 : 1, 2 : 1) : 1, pick(2 : 1, 1 : 3) : 1)", (), "11/8",
                        [(1, "5/8"), (2, "3/8")], "15/64")

    def test_worths_of_chance_0_are_left_out(self):
        self.assertTold("pick(1 : 0, 2 : 1)", (), 2, [(2, 1)], 0)
        self.assertTold("pick(1 : 0/5, 2 : 1/3, 1000000000 : 0)", (), 2, [(2, 1)], 0)
        self.assertTold("pick(pick(1 : 1, 2 : 1) : 0, pick(3 : 0, 4 : 2) : 1/9)", (), 4, [(4, 1)], 0)
        self.assertTold("pick(1 : 0, pick(1 : 1, 3 : 1) : 1)", (), 2, [(1, "1/2"), (3, "1/2")], 1)

    def test_amounts_added_on_the_way(self):
        self.assertTold("add(1/2, add(-3, add(1/3, 1)))", (), "-7/6", [("-7/6", 1)], 0)
        self.assertTold("add(10, pick(add(1, 1) : 1, add(-1, add(-1, -2)) : 1))", (), 9,
                        [(6, "1/2"), (12, "1/2")], 9)
        self.assertTold("add(1/3, pick(2/3 : 1, -1/3 : 1))", (), "1/2", [(0, "1/2"), (1, "1/2")], "1/4")

    def test_choices(self):
        tree = "if S(a : 1, b : if T(x : 2, y : pick(3 : 1, 5 : 1)), c : 6)"
        for other in (0, 1):
            self.assertTold(tree, (0, other), 1, [(1, 1)], 0)
            self.assertTold(tree, (2, other), 6, [(6, 1)], 0)
        self.assertTold(tree, (1, 0), 2, [(2, 1)], 0)
        self.assertTold(tree, (1, 1), 4, [(3, "1/2"), (5, "1/2")], 1)

    def test_the_same_is_chosen_wherever_a_station_is_come_to(self):
        tree = "if S(a : if S(a : 1, b : 2), b : pick(if S(a : 3, b : 4) : 1, if S(a : 5, b : 6) : 3))"
        self.assertTold(tree, (0,), 1, [(1, 1)], 0)
        self.assertTold(tree, (1,), "11/2", [(4, "1/4"), (6, "3/4")], "3/4")

    def test_a_choice_that_is_never_come_to(self):
        self.assertTold("pick(if S(a : 1, b : 2) : 0, 3 : 1)", (1,), 3, [(3, 1)], 0)

    def test_stations_are_told_by_the_order_of_the_text(self):
        tree = "pick(if z(a : 1, b : 2) : 1, if y(a : 10, b : 20, c : 30) : 1)"
        self.assertTold(tree, (1, 0), 6, [(2, "1/2"), (10, "1/2")], 16)
        self.assertTold(tree, (0, 2), "31/2", [(1, "1/2"), (30, "1/2")], "841/4")

    def test_the_chance_of_eight_ways(self):
        ways = ", ".join(f"{k} : {k}/{k + 1}" for k in range(8))
        shares = [Fraction(k, k + 1) for k in range(8)]
        chances = [share / sum(shares) for share in shares]
        expected = sum(k * chances[k] for k in range(8))
        width = sum((k - expected) ** 2 * chances[k] for k in range(8))
        self.assertTold(f"pick({ways})", (), expected, [(k, chances[k]) for k in range(1, 8)], width)

    def test_fractions_beyond_10_to_the_18(self):
        tree = "0"
        mean, square = Fraction(0), Fraction(0)
        for k in range(11):
            amount, share = Fraction(1000000000 - k, 999999937 - k), Fraction(1, 999999893 - 2 * k)
            tree = f"add({amount}, pick({tree} : {share}, -1000000000 : 1/7))"
            first = share / (share + Fraction(1, 7))
            mean, square = first * mean - (1 - first) * 10 ** 9, first * square + (1 - first) * 10 ** 18
            mean, square = mean + amount, square + 2 * amount * mean + amount ** 2
            expected, found, width = all_of(told(tree))
            self.assertEqual(expected, [1] + pair(mean))
            self.assertEqual(width, [1] + pair(square - mean ** 2))
            found = worths_told(found)
            self.assertEqual(sum(chance for value, chance in found), 1)
            self.assertEqual(sum(value * chance for value, chance in found), mean)
        self.assertLess(expected[1], -LIMIT)
        self.assertGreater(expected[2], LIMIT)
        self.assertGreater(width[1], LIMIT)

    def test_a_great_worth(self):
        tree = "1000000000"
        for k in range(23):
            tree = f"add(1000000000, {tree})"
        self.assertTold(tree, (), 24 * 10 ** 9, [(24 * 10 ** 9, 1)], 0)
        self.assertTold("pick(1000000000 : 1, -1000000000 : 1)", (), 0,
                        [(-10 ** 9, "1/2"), (10 ** 9, "1/2")], 10 ** 18)
        self.assertTold("pick(add(1000000000, 1000000000) : 1, add(-1000000000, -1000000000) : 1)", (), 0,
                        [(-2 * 10 ** 9, "1/2"), (2 * 10 ** 9, "1/2")], 4 * 10 ** 18)


class Promised(unittest.TestCase):
    GAMES = (
        (UMBRELLA, ((0,), (1,))),
        (BOX, ((0,), (1,))),
        (told("add(1/7, pick(if S(a : 1/2, b : pick(1 : 1/9, 2 : 2)) : 5, add(-1/3, if T(x : 0, y : -4)) : 3/2))"),
         ((0, 0), (0, 1), (1, 0), (1, 1))),
    )

    def test_chances_add_up_and_give_the_expected_worth_and_the_spread(self):
        for text, policies in self.GAMES:
            for policy in policies:
                expected, found, width = all_of(text, *policy)
                found = worths_told(found)
                mean = sum(value * chance for value, chance in found)
                self.assertEqual(sum(chance for value, chance in found), 1)
                self.assertEqual(expected, [1] + pair(mean))
                self.assertEqual(width, [1] + pair(sum(value ** 2 * chance for value, chance in found) - mean ** 2))
                self.assertGreaterEqual(width[1], 0)

    def test_a_spread_of_0_where_one_worth_comes_out(self):
        for tree in ("7", "pick(7 : 1, 7 : 2)", "pick(7 : 1, 8 : 0)", "add(1/3, -1000000000)"):
            self.assertEqual(ask_of(told(tree), spread()), [[1, 0, 1]])

    def test_a_spread_above_0_where_two_come_out(self):
        tree = "pick(1/1000000000 : 1/1000000000, 0 : 1000000000)"
        answer = ask_of(told(tree), spread())[0]
        self.assertGreater(answer[1], 0)
        self.assertEqual(answer[1:], pair(Fraction(10 ** 18, (10 ** 18 + 1) ** 2) / 10 ** 18))


class NoPolicy(unittest.TestCase):
    def assertRefused(self, text, *policy):
        with self.subTest(policy=policy[:5]):
            self.assertEqual(all_of(text, *policy), [[-5], [-5], [-5]])

    def test_one_station(self):
        for policy in ((), (0, 0), (-1,), (2,), (LIMIT,), (-LIMIT,), (0,) * 2000, (5,) * 2000):
            self.assertRefused(UMBRELLA, *policy)

    def test_stations_with_unlike_numbers_of_labels(self):
        text = told("if S(a : 1, b : if T(a : 2, b : 3, c : 4))")
        self.assertEqual(all_of(text, 1, 2), [[1, 4, 1], [1, 4, 1, 1, 1], [1, 0, 1]])
        for policy in ((2, 0), (2, 1), (0, 3), (0, -1), (-1, 0), (0,), (1,), (0, 0, 0), (1, 2, 0), ()):
            self.assertRefused(text, *policy)

    def test_no_station(self):
        for policy in ((0,), (-1,), (0, 0), (LIMIT,)):
            self.assertRefused(told("pick(1 : 1, 2 : 1)"), *policy)

    def test_a_station_that_the_policy_does_not_come_to(self):
        text = told("if S(a : 1, b : if T(a : 2, b : 3))")
        self.assertRefused(text, 0)
        self.assertRefused(text, 0, 2)

    def test_eight_labels(self):
        text = told("if S(" + ", ".join(f"l{k} : {k * k}" for k in range(8)) + ")")
        for k in range(8):
            self.assertEqual(ask_of(text, worth(k)), [[1, k * k, 1]])
        self.assertRefused(text, 8)


if __name__ == "__main__":
    unittest.main()
