"""free and seen: promise 4, and when knowing all lots first is too large."""

import unittest
from fractions import Fraction

from lotsandchoices.courses import Courses
from lotsandchoices.grammar import read_title_and_tree
from lotsandchoices.knowing import TooLarge, list_knowing_lots
from lotsandchoices.words import tokens_of
from tests.support import (
    BOX, UMBRELLA, ask_of, best, free, outcomes, pair, seen, seen_told, spanning, to_bytes, told, worth,
)


class Free(unittest.TestCase):
    def assertFree(self, tree, value):
        with self.subTest(tree=tree):
            self.assertEqual(ask_of(told(tree), free()), [[1] + pair(Fraction(value))])

    def test_no_station(self):
        self.assertFree("-5/2", "-5/2")
        self.assertFree("add(1, pick(1 : 1, 4 : 2))", 4)

    def test_one_station(self):
        self.assertFree("if S(a : 1, b : 3, c : 2)", 3)
        self.assertFree("if S(a : -1, b : -3)", -1)
        self.assertFree("if S(a : 1/3, b : 2/5, c : 3/8)", "2/5")

    def test_another_label_at_each_place(self):
        self.assertFree("pick(if S(a : 6, b : 0) : 1, if S(a : 0, b : 5) : 1, if S(a : 1, b : 2) : 1)", "13/3")
        self.assertFree("pick(if S(a : -6, b : -9) : 1/3, if S(a : -8, b : -5) : 2/3)", "-16/3")

    def test_stations_within_stations(self):
        self.assertFree("if S(a : if T(a : 1, b : 7), b : if T(a : 5, b : 2))", 7)
        self.assertFree("if S(a : if S(a : 1, b : 100), b : 2)", 100)
        self.assertFree("if S(a : if T(a : 1, b : if S(a : 0, b : 9)), b : if S(a : 8, b : 1))", 9)

    def test_the_expected_worth_decides_not_the_greatest(self):
        self.assertFree("if S(a : pick(100 : 1, -100 : 1), b : 1)", 1)
        self.assertFree("if S(a : pick(100 : 3, -100 : 2), b : 1)", 20)

    def test_choices_behind_lots_and_adds(self):
        self.assertFree("add(1/2, if S(a : add(10, -9), b : add(-10, 11/2)))", "3/2")
        self.assertFree("if S(a : add(-100, 3), b : add(2, pick(1 : 1, 2 : 1)))", "7/2")
        self.assertFree("pick(add(5, if S(a : 1, b : 0)) : 1, add(-5, if S(a : 1, b : 3)) : 3)", 0)

    def test_places_of_chance_0(self):
        self.assertFree("pick(if S(a : 1000000000, b : 0) : 0, if S(a : 1, b : 2) : 1)", 2)
        self.assertFree("if S(a : pick(if S(a : 1000000000, b : 0) : 0, -1 : 1), b : 0)", 0)

    def test_as_the_best_policy_where_every_station_stands_at_one_place(self):
        for tree in (
            "if S(a : 1, b : 3, c : 2)",
            "if S(a : if T(a : 1, b : 7), b : if U(a : 5, b : 9))",
            "pick(if S(a : 1, b : pick(if T(a : -1, b : 5) : 2, 3 : 1)) : 1, add(1/3, if U(a : -1/2, b : -1/3)) : 2)",
            "pick(4 : 1, 5 : 1)",
        ):
            most, knowing = ask_of(told(tree), best(), free())
            self.assertEqual(most[1:3], knowing[1:], tree)


class Seen(unittest.TestCase):
    def assertSeen(self, tree, *found):
        """found: the worths with their chances, the least first."""
        found = [(Fraction(value), Fraction(chance)) for value, chance in found]
        self.assertEqual(sum(chance for value, chance in found), 1)
        numbers = [len(found)] + pair(sum(value * chance for value, chance in found))
        for value, chance in found:
            numbers += pair(value) + pair(chance)
        with self.subTest(tree=tree):
            self.assertEqual(ask_of(told(tree), seen()), [numbers])

    def test_no_lots(self):
        self.assertSeen("5", (5, 1))
        self.assertSeen("add(1/2, -1)", ("-1/2", 1))
        self.assertSeen("if S(a : 1, b : if S(a : 2, b : 3))", (3, 1))
        self.assertSeen("add(-1, if S(a : -2, b : -3))", (-3, 1))

    def test_no_station(self):
        self.assertSeen("pick(4 : 2, 1 : 1)", (1, "1/3"), (4, "2/3"))
        self.assertSeen("pick(pick(0 : 1, 1 : 1) : 1, pick(1 : 1, 2 : 3) : 1)", (0, "1/4"), (1, "3/8"), (2, "3/8"))

    def test_choices_within_lots(self):
        self.assertSeen("pick(if S(a : 1, b : 2) : 1, if S(a : 4, b : 3) : 2)", (2, "1/3"), (4, "2/3"))

    def test_lots_within_choices(self):
        self.assertSeen("if S(a : pick(1 : 1, 4 : 2), b : pick(2 : 1, 3 : 1))", (2, "1/6"), (3, "1/6"), (4, "2/3"))
        self.assertSeen("if S(a : pick(1 : 1, 4 : 3), b : 3)", (3, "1/4"), (4, "3/4"))
        self.assertSeen("if S(a : pick(1 : 1, 4 : 3), b : 5)", (5, 1))

    def test_three_choices(self):
        coin = "pick(0 : 1, 1 : 1)"
        self.assertSeen(f"if S(a : {coin}, b : {coin}, c : {coin})", (0, "1/8"), (1, "7/8"))
        self.assertSeen("if S(a : pick(0 : 1, 6 : 1), b : pick(1 : 1, 5 : 2), c : pick(2 : 3, 4 : 1))",
                        (2, "1/8"), (4, "1/24"), (5, "1/3"), (6, "1/2"))

    def test_eight_choices(self):
        ways = ", ".join(f"l{k} : pick(0 : 1, {k + 1} : 1)" for k in range(8))
        chances = [Fraction(1, 256)] + [Fraction(2 ** k, 256) for k in range(8)]
        self.assertSeen(f"if S({ways})", *enumerate(chances))

    def test_the_lots_of_each_place_are_drawn_by_themselves(self):
        # The same words at two places are two lots: they need not come out alike.
        self.assertSeen("if S(a : pick(0 : 1, 1 : 1), b : pick(0 : 1, 1 : 1))", (0, "1/4"), (1, "3/4"))
        tree = "if S(a : if T(a : pick(0 : 1, 1 : 1), b : 0), b : if T(a : pick(0 : 1, 1 : 1), b : 0))"
        self.assertSeen(tree, (0, "1/4"), (1, "3/4"))

    def test_another_label_at_each_place(self):
        self.assertSeen("pick(if S(a : 6, b : 0) : 1, if S(a : 0, b : 5) : 1)", (5, "1/2"), (6, "1/2"))

    def test_the_same_worth_by_several_ways(self):
        self.assertSeen("pick(3 : 1, 3 : 1, add(1, 2) : 1, pick(1 : 1, 3 : 1) : 1)", (1, "1/8"), (3, "7/8"))
        self.assertSeen("if S(a : pick(2 : 1, 4/2 : 1), b : add(1, 1))", (2, 1))
        self.assertSeen("if S(a : pick(1 : 1, 2 : 1), b : pick(add(1, 1) : 1, 1 : 2))", (1, "1/3"), (2, "2/3"))

    def test_adds_on_the_way(self):
        self.assertSeen("add(10, if S(a : add(1, pick(0 : 1, 3 : 1)), b : add(-1, pick(3 : 1, 4 : 2))))",
                        (12, "1/6"), (13, "1/3"), (14, "1/2"))
        self.assertSeen("pick(add(1/2, if S(a : 1/2, b : 0)) : 1, add(-1/3, if S(a : 1/3, b : 0)) : 1)",
                        (0, "1/2"), (1, "1/2"))

    def test_fractions_that_are_0(self):
        self.assertSeen("pick(1 : 0, 2 : 1)", (2, 1))
        self.assertSeen("pick(2 : 1, 1 : 0)", (2, 1))
        self.assertSeen("pick(9 : 0/7, 2 : 1/3, if S(a : 8, b : 1) : 0, 1 : 1/6)", (1, "1/3"), (2, "2/3"))
        self.assertSeen("pick(pick(1 : 1, 2 : 1) : 0, pick(3 : 0, 4 : 2) : 1/9)", (4, 1))
        self.assertSeen("pick(2 : 0, pick(2 : 1, 3 : 2) : 1)", (2, "1/3"), (3, "2/3"))

    def test_a_worth_of_chance_0_is_not_chosen(self):
        self.assertSeen("if S(a : pick(9 : 0, 1 : 1), b : 2)", (2, 1))
        self.assertSeen("if S(a : pick(9 : 0, 1 : 1, 3 : 1), b : pick(2 : 1, 8 : 0))", (2, "1/2"), (3, "1/2"))

    def test_the_least_first(self):
        self.assertSeen(
            "pick(1/2 : 1, if S(a : -1/3, b : -1) : 1, 1/3 : 1, -1/2 : 1, 0 : 1, 10 : 1, 9 : 1, -10 : 1)",
            *[(value, "1/8") for value in ("-10", "-1/2", "-1/3", "0", "1/3", "1/2", "9", "10")],
        )

    def test_chances_in_lowest_terms_beyond_10_to_the_18(self):
        shares = [Fraction(1, 999999937), Fraction(1, 999999929), Fraction(1, 999999893)]
        ways = ", ".join(f"{'abc'[k]} : pick(0 : {share}, 1 : 1)" for k, share in enumerate(shares))
        none = Fraction(1)
        for share in shares:
            none *= share / (share + 1)
        self.assertGreater(none.denominator, 10 ** 18)
        self.assertSeen(f"if S({ways})", (0, none), (1, 1 - none))


class TooLargeCase(unittest.TestCase):
    def assertNotTooLarge(self, tree, many):
        with self.subTest(tree=tree):
            answer = ask_of(told(tree), seen())[0]
            self.assertEqual(answer[0], many)
            self.assertEqual(sum(chance for value, chance in seen_told(answer)[1]), 1)

    def assertTooLarge(self, tree):
        with self.subTest(tree=tree):
            self.assertEqual(ask_of(told(tree), seen()), [[-8]])


class Pairs(TooLargeCase):
    # 8, 16, 19, 27, 32 and 64 worths.
    EIGHT, SIXTEEN, NINETEEN = spanning(0, 7), spanning(0, 15), spanning(0, 18)
    TWENTYSEVEN, THIRTYTWO, SIXTYFOUR = spanning(0, 26), spanning(0, 31), spanning(0, 63)

    def test_just_512_pairs(self):
        self.assertNotTooLarge(f"if S(a : {self.SIXTEEN}, b : {self.THIRTYTWO})", 32)
        self.assertNotTooLarge(f"if S(a : {self.THIRTYTWO}, b : {self.SIXTEEN})", 32)
        self.assertNotTooLarge(f"if S(a : {self.EIGHT}, b : {self.SIXTYFOUR})", 64)
        self.assertNotTooLarge(f"if S(a : pick(0 : 1, 1 : 1), b : {spanning(0, 255)})", 256)

    def test_more_than_512_pairs(self):
        self.assertTooLarge(f"if S(a : {self.NINETEEN}, b : {self.TWENTYSEVEN})")
        self.assertTooLarge(f"if S(a : {self.TWENTYSEVEN}, b : {self.NINETEEN})")
        self.assertTooLarge(f"if S(a : pick(0 : 1, 1 : 1), b : {spanning(0, 256)})")
        self.assertTooLarge(f"if S(a : {self.THIRTYTWO}, b : {self.THIRTYTWO})")

    def test_many_worths_beside_one(self):
        self.assertNotTooLarge(f"if S(a : {spanning(0, 299)}, b : 5)", 295)
        self.assertNotTooLarge(spanning(0, 299), 300)

    def test_from_the_last_to_the_first(self):
        wide, top = self.THIRTYTWO, "100"
        # The last two come to one worth, so only 32 pairs are left for the first.
        self.assertNotTooLarge(f"if S(a : {wide}, b : {wide}, c : {top})", 1)
        self.assertNotTooLarge(f"if S(a : {wide}, b : {top}, c : {wide})", 1)
        self.assertTooLarge(f"if S(a : {top}, b : {wide}, c : {wide})")

    def test_from_the_last_to_the_first_of_more_than_three(self):
        wide, top = self.THIRTYTWO, "100"
        self.assertNotTooLarge(f"if S(a : {wide}, b : {wide}, c : {wide}, d : {top})", 1)
        self.assertNotTooLarge(f"if S(a : {wide}, b : {wide}, c : {top}, d : {wide})", 1)
        self.assertTooLarge(f"if S(a : {wide}, b : {top}, c : {wide}, d : {wide})")
        self.assertTooLarge(f"if S(a : {top}, b : 1, c : {wide}, d : {wide})")
        # 64 worths above the one on the way.
        self.assertTooLarge(f"if S(a : {spanning(100, 163)}, b : {spanning(200, 208)}, c : {top}, d : {wide})")
        self.assertNotTooLarge(f"if S(a : {spanning(100, 163)}, b : {spanning(200, 207)}, c : {top}, d : {wide})", 8)

    def test_the_better_of_two_lists_is_counted_for_the_next(self):
        # 0 2 4 .. and 1 3 5 .. come to all numbers but the 0 together.
        evens, odds = spanning(0, 30, 2), spanning(1, 31, 2)
        self.assertNotTooLarge(f"if S(a : {self.SIXTEEN}, b : {evens}, c : {odds})", 31)
        self.assertTooLarge(f"if S(a : {spanning(0, 16)}, b : {evens}, c : {odds})")

    def test_equal_worths_are_one(self):
        twice = f"pick({self.SIXTEEN} : 1, add(1, {spanning(-1, 14)}) : 2)"
        self.assertNotTooLarge(f"if S(a : {twice}, b : {self.THIRTYTWO})", 32)

    def test_worths_of_chance_0_are_in_no_list(self):
        more = f"pick({self.SIXTEEN} : 1, {spanning(50, 60)} : 0, 70 : 0)"
        self.assertNotTooLarge(f"if S(a : {more}, b : {self.THIRTYTWO})", 32)
        self.assertNotTooLarge(f"if S(a : {self.THIRTYTWO}, b : {more})", 32)

    def test_in_a_way_that_is_never_drawn(self):
        large = f"if S(a : {self.THIRTYTWO}, b : {self.THIRTYTWO})"
        small = f"if S(a : {self.THIRTYTWO}, b : {self.SIXTEEN})"
        self.assertTooLarge(f"pick({large} : 0, 1 : 1)")
        self.assertTooLarge(f"pick(1 : 1, {large} : 0)")
        self.assertTooLarge(f"pick(1 : 1, add(1, pick({large} : 1, 0 : 1)) : 0/3)")
        self.assertNotTooLarge(f"pick({small} : 0, 1 : 1)", 1)

    def test_anywhere_within_the_tree(self):
        large = f"if S(a : {self.THIRTYTWO}, b : {self.THIRTYTWO})"
        for tree in (
            f"add(1, {large})", f"pick({large} : 1, 1 : 1)", f"pick(1 : 1, {large} : 1)",
            f"if T(a : {large}, b : 1000)", f"if T(a : 1000, b : {large})", f"if S(a : 1000, b : {large})",
        ):
            self.assertTooLarge(tree)

    def test_the_refusal_leaves_the_game(self):
        text = told(f"if S(a : {self.THIRTYTWO}, b : {self.THIRTYTWO})")
        answers = ask_of(text, seen(), free(), best(), seen(), worth(1))
        self.assertEqual(answers, [[-8], [1, 31, 2], [2, 31, 2, 0], [-8], [1, 31, 2]])


class LongLists(unittest.TestCase):
    """The one form of a game with so many worths is too long, so these trees are read past load."""

    def assertCounted(self, tree, many):
        """many is how many worths come out; None where that is too large."""
        whole = read_title_and_tree(tokens_of(to_bytes(told(tree))))[1]
        Courses(whole)
        if many is None:
            self.assertRaises(TooLarge, list_knowing_lots, whole)
        else:
            self.assertEqual(len(list_knowing_lots(whole)), many)

    def test_512_worths_and_more(self):
        self.assertCounted(spanning(0, 511), 512)
        self.assertCounted(spanning(0, 512), None)

    def test_way_by_way(self):
        first, second = spanning(0, 299), spanning(250, 511)
        self.assertCounted(f"pick({first} : 1, {second} : 2)", 512)
        self.assertCounted(f"pick({first} : 1, {second} : 2, 600 : 1)", None)
        self.assertCounted(f"pick(600 : 1, {first} : 1, {second} : 2)", None)
        self.assertCounted(f"pick(600 : 0, {first} : 1, {second} : 2)", 512)

    def test_too_long_on_the_way(self):
        self.assertCounted(f"if S(a : 1000, b : {spanning(0, 512)})", None)
        self.assertCounted(f"if S(a : 1000, b : {spanning(0, 511)})", 1)
        self.assertCounted(f"pick(1 : 1, {spanning(0, 512)} : 0)", None)


class Promised(unittest.TestCase):
    TREES = (
        "pick(if S(a : 6, b : 0) : 1, if S(a : 0, b : 5) : 1, if S(a : 1, b : 2) : 1)",
        "if S(a : if T(a : 1, b : pick(7 : 1, 0 : 2)), b : if T(a : 5, b : 2), c : pick(-1 : 1, 9 : 1))",
        "add(1/7, pick(if S(a : 1/2, b : pick(1 : 1/9, 2 : 2)) : 5, add(-1/3, if T(x : 0, y : -4)) : 3/2))",
        "if S(a : if S(a : 1, b : 100), b : 2)",
        "pick(if S(a : 1000000000, b : 0) : 0, if S(a : pick(1 : 1, 3 : 1), b : 2) : 1)",
        "pick(1 : 1, 2 : 1)", "7", "if S(a : -1, b : -1)",
    )

    def test_to_know_more_is_never_worth_less(self):
        for text in (UMBRELLA, BOX) + tuple(told(tree) for tree in self.TREES):
            most, places, lots = ask_of(text, best(), free(), seen())
            with self.subTest(text=text):
                self.assertLessEqual(Fraction(*most[1:3]), Fraction(*places[1:]))
                self.assertLessEqual(Fraction(*places[1:]), seen_told(lots)[0])

    def test_each_step_may_be_worth_more(self):
        text = told("pick(if S(a : pick(0 : 1, 4 : 1), b : 1) : 1, if S(a : 0, b : pick(0 : 1, 4 : 1)) : 1)")
        self.assertEqual(ask_of(text, best(), free()), [[1, 3, 2, 1], [1, 2, 1]])
        self.assertEqual(ask_of(text, seen()), [[3, 9, 4, 0, 1, 1, 4, 1, 1, 1, 4, 4, 1, 1, 2]])

    def test_the_chances_add_up_and_give_the_expected_worth(self):
        for text in (UMBRELLA, BOX) + tuple(told(tree) for tree in self.TREES):
            mean, found = seen_told(ask_of(text, seen())[0])
            with self.subTest(text=text):
                self.assertEqual(sum(chance for value, chance in found), 1)
                self.assertEqual(sum(value * chance for value, chance in found), mean)
                self.assertTrue(all(chance > 0 for value, chance in found))
                self.assertEqual(sorted({value for value, chance in found}), [value for value, chance in found])

    def test_as_the_one_policy_where_there_is_no_station(self):
        for tree in ("5", "pick(4 : 2, 1 : 1)", "add(-1/2, pick(pick(0 : 1, 1 : 0) : 1, pick(1 : 1, 2 : 3) : 1))"):
            found, lots, places, mean = ask_of(told(tree), outcomes(), seen(), free(), worth())
            self.assertEqual([lots[0]] + lots[3:], found)
            self.assertEqual([1] + lots[1:3], mean)
            self.assertEqual(places, mean)


if __name__ == "__main__":
    unittest.main()
