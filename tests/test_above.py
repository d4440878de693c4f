"""above: promise 6, and policies that are none."""

import unittest
from fractions import Fraction

from tests.support import LIMIT, UMBRELLA, above, ask_of, outcomes, policies_of, told, worth, worths_told

MANY = told(
    "if S(a : 3, b : pick(1 : 1, 5 : 1), c : pick(1 : 1, 6 : 1), d : pick(5 : 2, 1 : 2), e : pick(3 : 0, 0 : 1),"
    " f : pick(2 : 1, 3 : 1, 4 : 2), g : pick(2 : 1, 4 : 1), h : if T(x : 3, y : add(1/2, 5/2), z : 3/2))"
)


class Above(unittest.TestCase):
    def assertAbove(self, tree, first, second, there, back):
        """Whether the first policy is above the second one, and whether the second is above the first."""
        with self.subTest(tree=tree, first=first, second=second):
            self.assertEqual(ask_of(told(tree), above(first, second), above(second, first)), [[there], [back]])

    def test_a_policy_and_itself(self):
        for policy in policies_of(MANY):
            self.assertEqual(ask_of(MANY, above(policy, policy)), [[1]])
        self.assertEqual(ask_of(told("pick(1 : 1, 2 : 1)"), above([], [])), [[1]])

    def test_one_above_the_other(self):
        self.assertAbove("if S(a : 2, b : 1)", [0], [1], 1, 0)
        self.assertAbove("if S(a : -2, b : -1)", [1], [0], 1, 0)
        self.assertAbove("if S(a : pick(1 : 1, 5 : 1), b : pick(1 : 1, 6 : 1))", [1], [0], 1, 0)
        self.assertAbove("if S(a : pick(0 : 1, 5 : 1), b : pick(1 : 1, 5 : 1))", [1], [0], 1, 0)
        self.assertAbove("if S(a : pick(1 : 2, 5 : 1), b : pick(1 : 1, 5 : 1))", [1], [0], 1, 0)
        self.assertAbove("if S(a : pick(1 : 1, 5 : 1), b : 5)", [1], [0], 1, 0)
        self.assertAbove("if S(a : pick(1 : 1, 5 : 1), b : 1)", [0], [1], 1, 0)
        self.assertAbove("if S(a : 1/3, b : 1/2)", [1], [0], 1, 0)
        self.assertAbove("if S(a : add(-1, 1), b : add(-1/2, 1))", [1], [0], 1, 0)

    def test_neither_above_the_other(self):
        self.assertAbove("if S(a : pick(0 : 1, 10 : 1), b : 5)", [0], [1], 0, 0)
        self.assertAbove("if S(a : pick(0 : 1, 1000 : 1), b : 1)", [0], [1], 0, 0)
        self.assertAbove("if S(a : pick(0 : 1, 4 : 2, 5 : 1), b : pick(1 : 1, 2 : 1, 5 : 2))", [0], [1], 0, 0)
        # Behind in the middle alone.
        self.assertAbove("if S(a : pick(1 : 2, 3 : 1, 9 : 2), b : pick(0 : 1, 4 : 3, 8 : 1))", [0], [1], 0, 0)

    def test_equal_outcomes_by_unlike_policies(self):
        self.assertAbove("if S(a : 1, b : 1)", [0], [1], 1, 1)
        self.assertAbove("if S(a : pick(1 : 1, 5 : 1), b : pick(5 : 2, 1 : 2))", [0], [1], 1, 1)
        self.assertAbove("if S(a : add(1/2, 1/2), b : pick(1 : 1, 7 : 0))", [0], [1], 1, 1)
        self.assertAbove("if S(a : 1, b : if T(x : 2, y : 3))", [0, 0], [0, 1], 1, 1)

    def test_worths_of_chance_0_do_not_count(self):
        self.assertAbove("if S(a : pick(1 : 1, 9 : 0), b : 2)", [1], [0], 1, 0)
        self.assertAbove("if S(a : pick(3 : 1, 0 : 0), b : 2)", [0], [1], 1, 0)

    def test_the_same_worth_of_expectation_is_not_enough(self):
        self.assertAbove("if S(a : pick(0 : 1, 2 : 1), b : 1)", [0], [1], 0, 0)

    def test_several_stations(self):
        tree = "pick(if S(a : 1, b : 2) : 1, if T(a : 5, b : 3) : 1, if S(a : 0, b : 4) : 1)"
        self.assertAbove(tree, [1, 0], [0, 1], 1, 0)
        self.assertAbove(tree, [1, 1], [0, 1], 1, 0)
        self.assertAbove(tree, [1, 1], [0, 0], 0, 0)

    def test_small_differences_of_chance(self):
        tree = "if S(a : pick(0 : 1/1000000000, 1 : 1), b : pick(0 : 1/999999999, 1 : 1))"
        self.assertAbove(tree, [0], [1], 1, 0)

    def test_against_the_chances_that_outcomes_tells(self):
        policies = policies_of(MANY)
        found = [worths_told(answer) for answer in ask_of(MANY, *[outcomes(*policy) for policy in policies])]
        for first, mine in zip(policies, found):
            answers = ask_of(MANY, *[above(first, second) for second in policies])
            for second, yours, answer in zip(policies, found, answers):
                bounds = [value for value, chance in mine + yours]
                kept = all(at_least(mine, bound) >= at_least(yours, bound) for bound in bounds)
                self.assertEqual(answer, [1 if kept else 0], f"{first} {second}")


def at_least(found, bound):
    return sum(chance for value, chance in found if value >= bound)


class Promised(unittest.TestCase):
    def test_a_policy_above_another_is_worth_no_less(self):
        policies = policies_of(MANY)
        worths = [Fraction(*answer[1:]) for answer in ask_of(MANY, *[worth(*policy) for policy in policies])]
        pairs = 0
        for first, mine in zip(policies, worths):
            for second, yours in zip(policies, worths):
                if ask_of(MANY, above(first, second)) == [[1]]:
                    self.assertGreaterEqual(mine, yours)
                    pairs += 1
        self.assertGreater(pairs, len(policies))
        self.assertLess(pairs, len(policies) ** 2)


class NoPolicy(unittest.TestCase):
    def test_the_first_the_second_and_both(self):
        for wrong in ([], [2], [-1], [0, 0], [LIMIT], [-LIMIT], [0] * 2000, [LIMIT] * 2000):
            with self.subTest(wrong=wrong[:3]):
                answers = ask_of(
                    UMBRELLA, above(wrong, [0]), above([0], wrong), above(wrong, wrong), above(wrong, [7]),
                    above([1], [0]), above([1], [1]),
                )
                self.assertEqual(answers, [[-5], [-5], [-5], [-5], [0], [1]])

    def test_no_station(self):
        answers = ask_of(told("1"), above([], []), above([0], []), above([], [0]), above([0], [0]))
        self.assertEqual(answers, [[1], [-5], [-5], [-5]])

    def test_unlike_many_labels(self):
        answers = ask_of(
            MANY, above([7, 2], [0, 0]), above([8, 2], [0, 0]), above([7, 3], [0, 0]), above([0, 0], [2, 7]),
            above([0, 0], [0]), above([0, 0, 0], [0, 0]),
        )
        self.assertEqual(answers, [[0], [-5], [-5], [-5], [-5], [-5]])

    def test_the_refusal_leaves_the_game_and_what_follows_is_read_on(self):
        answers = ask_of(UMBRELLA, above([5] * 7, [4] * 11), worth(1), above([1], [1]))
        self.assertEqual(answers, [[-5], [1, 4, 3], [1]])


if __name__ == "__main__":
    unittest.main()
