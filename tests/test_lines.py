"""What holds for all calls: no game held, many calls in one list, and that nothing is changed or kept."""

import io
import sys
import unittest
from contextlib import redirect_stderr, redirect_stdout

from lotsandchoices.game import answers
from tests.support import (
    BOX, LIMIT, UMBRELLA, above, ask, ask_of, best, free, load, outcomes, policy, seen, shown, sizes, spanning, split,
    spread, station, to_bytes, told as game_of, worst, worth,
)


class Sealed(list):
    """A list that refuses every change, even one that is taken back."""

    def refuse(self, *given):
        raise AssertionError("the list handed in was changed")

    append = extend = insert = remove = pop = clear = sort = reverse = refuse
    __setitem__ = __delitem__ = __iadd__ = __imul__ = refuse


class NoGame(unittest.TestCase):
    CALLS = (
        shown(), sizes(), station(0), station(-1), station(LIMIT),
        worth(), worth(0), worth(-LIMIT, LIMIT), worth(*[9] * 2000),
        outcomes(), outcomes(0), outcomes(0, -1), outcomes(*[0] * 2000),
        spread(), spread(0), spread(LIMIT), spread(*[1] * 2000),
        best(), worst(), free(), seen(),
        above([], []), above([0], [1]), above([LIMIT] * 2000, [-LIMIT] * 2000), above([], [12]), above([12], []),
        policy(0), policy(-1), policy(LIMIT), policy(-LIMIT), policy(12),
    )

    def test_refused_before_all_else(self):
        for call in self.CALLS:
            with self.subTest(call=call[:5]):
                self.assertEqual(answers(call), [1, -1])

    def test_refused_one_behind_another(self):
        self.assertEqual(ask(*self.CALLS), [[-1]] * len(self.CALLS))

    def test_refused_until_a_text_is_a_game(self):
        told = ask(sizes(), load("chance"), sizes(), load("chance T tell 1"), sizes())
        self.assertEqual(told, [[-1], [0, 3, 6], [-1], [1], [1, 0, 1]])

    def test_each_call_behind_a_text_that_is_no_game(self):
        for call in self.CALLS:
            self.assertEqual(ask(load("chance T tell"), call), [[0, 3, 13], [-1]])


class Lines(unittest.TestCase):
    def test_how_the_answers_stand(self):
        self.assertEqual(answers(load("chance T tell 1/2")), [1, 1])
        self.assertEqual(answers(load("")), [3, 0, 3, 0])
        self.assertEqual(
            answers(load("chance T tell 1/2") + shown() + worth() + worth(0) + station(0)),
            [1, 1, 19, 18] + to_bytes("chance T\ntell 1/2\n") + [3, 1, 1, 2, 1, -5, 1, -2],
        )

    def test_400_calls(self):
        several = [
            worth(0), outcomes(1), spread(0), station(0), sizes(), shown(), worth(7), station(1),
            best(), worst(), free(), seen(), above([1], [0]), above([0], [1, 1]), policy(1), policy(2),
        ]
        calls = [load(UMBRELLA)] + [several[k % 16] for k in range(199)]
        calls += [load(BOX)] + [several[k % 16] for k in range(199)]
        self.assertEqual(len(calls), 400)
        line = sum(calls, [])
        told = split(answers(line))
        self.assertEqual(len(told), 400)
        for text, begin in ((UMBRELLA, 0), (BOX, 200)):
            alone = [ask_of(text, call)[0] for call in several]
            self.assertEqual(told[begin], [1])
            self.assertEqual(told[begin + 1:begin + 200], [alone[k % 16] for k in range(199)])

    def test_a_refusal_leaves_the_game(self):
        told = ask_of(BOX, worth(2), station(5), worth(), outcomes(-1), spread(0, 0), load("$"), worth(1), shown())
        self.assertEqual(told[:6], [[-5], [-2], [-5], [-5], [-5], [0, 2, 0]])
        self.assertEqual(told[6:], ask_of(BOX, worth(1), shown()))

    def test_a_fault_leaves_the_game_to_all_calls(self):
        asked = (
            shown(), sizes(), station(0), worth(1), outcomes(0), spread(0), best(), worst(), free(), seen(),
            above([1], [0]), policy(1),
        )
        for text in (UMBRELLA, BOX):
            alone = [ask_of(text, call)[0] for call in asked]
            calls = sum([[load("chance T tell if S(a : 1, a : 2)"), call] for call in asked], [])
            self.assertEqual(ask_of(text, *calls), sum([[[0, 5, 26], answer] for answer in alone], []))

    def test_the_next_game_is_answered_by_itself(self):
        asked = (best(), worst(), free(), seen(), policy(1), above([0], [1]))
        calls = sum([[load(text)] + list(asked) for text in (UMBRELLA, BOX, UMBRELLA)], [])
        alone = [[[1]] + ask_of(text, *asked) for text in (UMBRELLA, BOX, UMBRELLA)]
        self.assertEqual(ask(*calls), sum(alone, []))

    def test_all_400_the_same(self):
        large = game_of(f"if S(a : {spanning(0, 22)}, b : {spanning(0, 22)})")
        binary = [f"if s{k}(a : 0, b : 1)" for k in range(11)]
        many = "pick(" + ", ".join(f"{place} : 1" for place in binary[:7])
        many = game_of(many + ", pick(" + ", ".join(f"{place} : 1" for place in binary[7:]) + ") : 4)")
        for text, call, answer in (
            (many, best(), [1, 1, 1] + [1] * 11), (many, worst(), [1, 0, 1] + [0] * 11), (many, free(), [1, 1, 1]),
            (many, seen(), [1, 1, 1, 1, 1, 1, 1]), (large, seen(), [-8]), (many, policy(2047), [11] + [1] * 11),
            (many, above([1] * 11, [0] * 11), [1]), (many, above([0] * 11, [1] * 11), [0]),
        ):
            self.assertEqual(ask_of(text, *[call] * 399), [answer] * 399)

    def test_long_rows(self):
        line = load(" " * 8192) + load(UMBRELLA) + worth(*[LIMIT] * 2000) + outcomes(*[-LIMIT] * 2000) + worth(1)
        self.assertEqual(split(answers(line)), [[0, 1, 4096], [1], [-5], [-5], [1, 4, 3]])
        line = load(UMBRELLA) + above([12] * 2000, [0]) + above([0], [11] * 2000)
        line += above([7] * 2000, [8] * 2000) + free()
        self.assertEqual(split(answers(line)), [[1], [-5], [-5], [-5], [1, 3, 1]])

    def test_kinds_of_what_is_given_back(self):
        told = answers(
            load(UMBRELLA) + shown() + sizes() + station(0) + worth(0) + outcomes(1) + spread(0) + worth() + best()
            + worst() + free() + seen() + above([0], [0]) + above([0], [1]) + policy(0) + policy(9)
        )
        self.assertIs(type(told), list)
        self.assertEqual({type(number) for number in told}, {int})


class Kept(unittest.TestCase):
    LINE = (
        load(UMBRELLA) + shown() + sizes() + station(0) + worth(0) + outcomes(1) + spread(0) + worth(3)
        + best() + worst() + free() + seen() + above([1], [1]) + above([1], [0, 0]) + policy(1) + policy(2)
        + load("pick") + seen() + load(BOX) + outcomes(0) + outcomes(0) + seen() + seen() + best() + free() + best()
        + above([0], [1]) + policy(0)
    )

    def test_the_same_list_twice(self):
        line = list(self.LINE)
        first = answers(line)
        self.assertEqual(answers(line), first)
        self.assertEqual(line, self.LINE)

    def test_what_is_given_back_is_not_kept(self):
        first = answers(list(self.LINE))
        copied = list(first)
        first.clear()
        self.assertEqual(answers(list(self.LINE)), copied)

    def test_no_game_is_held_at_the_next_beginning(self):
        self.assertEqual(answers(load(UMBRELLA)), [1, 1])
        self.assertEqual(answers(sizes()), [1, -1])

    def test_the_list_handed_in_is_not_changed_for_a_while_either(self):
        self.assertEqual(answers(Sealed(self.LINE)), answers(list(self.LINE)))

    def test_nothing_is_printed_or_read(self):
        out, err = io.StringIO(), io.StringIO()
        kept = sys.stdin
        sys.stdin = None
        try:
            with redirect_stdout(out), redirect_stderr(err):
                answers(list(self.LINE))
        finally:
            sys.stdin = kept
        self.assertEqual(out.getvalue() + err.getvalue(), "")

    def test_few_calls_within_one_another(self):
        wide = "pick(" + ", ".join(["pick(" + ", ".join(f"{k} : 1" for k in range(8)) + ") : 1"] * 8) + ")"
        deep = "1"
        for level in range(23):
            deep = f"pick({deep}:1,{level}:1)"
        texts = ["chance T tell " + tree + " " * 2000 + "#" * 1000 for tree in (wide, deep)]
        line = sum([
            load(text) + shown() + sizes() + worth() + outcomes() + spread() + best() + worst() + free() + seen()
            + above([], []) + policy(0) for text in texts
        ], [])
        depth = 0
        frame = sys._getframe()
        while frame is not None:
            depth += 1
            frame = frame.f_back
        kept = sys.getrecursionlimit()
        sys.setrecursionlimit(depth + 200)
        try:
            told = split(answers(line))
        finally:
            sys.setrecursionlimit(kept)
        self.assertEqual([told[0], told[2], told[12], told[14]], [[1], [73, 0, 1], [1], [47, 0, 1]])
        for begin in (0, 12):
            mean = told[begin + 3]
            self.assertEqual(told[begin + 6:begin + 9], [mean, mean, mean])
            self.assertEqual([1] + told[begin + 9][1:3], mean)
            self.assertEqual(told[begin + 10:begin + 12], [[1], [0]])


if __name__ == "__main__":
    unittest.main()
