"""What the document works out, all of it."""

import unittest

from lotsandchoices.game import answers
from tests.support import (
    BOX, UMBRELLA, above, ask_of, best, free, load, outcomes, policy, seen, sizes, spread, worst, worth,
)


class Worked(unittest.TestCase):
    def test_umbrella(self):
        told = ask_of(
            UMBRELLA, sizes(), worth(0), worth(1), outcomes(0), spread(0), best(), worst(), free(), seen(),
            above([1], [0]),
        )
        self.assertEqual(told, [
            [7, 1, 2], [1, 1, 1], [1, 4, 3], [2, -1, 1, 2, 3, 5, 1, 1, 3], [1, 8, 1], [1, 4, 3, 1], [1, 1, 1, 0],
            [1, 3, 1], [2, 3, 1, 2, 1, 2, 3, 5, 1, 1, 3], [0],
        ])

    def test_umbrella_number_by_number(self):
        calls = load(UMBRELLA) + [2, 4, 1, 0, 5, 1, 0, 6, 1, 0, 7, 8, 9, 10, 11, 1, 1, 1, 0, 12, 1]
        self.assertEqual(answers(calls), [
            1, 1, 3, 7, 1, 2, 3, 1, 1, 1, 9, 2, -1, 1, 2, 3, 5, 1, 1, 3, 3, 1, 8, 1, 4, 1, 4, 3, 1, 4, 1, 1, 1, 0,
            3, 1, 3, 1, 11, 2, 3, 1, 2, 1, 2, 3, 5, 1, 1, 3, 1, 0, 2, 1, 1,
        ])

    def test_box(self):
        told = ask_of(BOX, free(), seen())
        self.assertEqual(told, [[1, 1, 2], [2, 5, 8, 0, 1, 3, 8, 1, 1, 5, 8]])

    def test_the_rest_of_umbrella(self):
        told = ask_of(UMBRELLA, above([0], [1]), above([0], [0]), above([1], [1]), policy(0), policy(1), policy(2))
        self.assertEqual(told, [[0], [1], [1], [1, 0], [1, 1], [-2]])

    def test_the_rest_of_box(self):
        told = ask_of(
            BOX, sizes(), worth(0), worth(1), outcomes(1), spread(1), best(), worst(), above([0], [1]), above([1], [0]),
        )
        self.assertEqual(told, [
            [7, 1, 2], [1, 1, 2], [1, 1, 4], [2, 0, 1, 3, 4, 1, 1, 1, 4], [1, 3, 16], [1, 1, 2, 0], [1, 1, 4, 1],
            [1], [0],
        ])


if __name__ == "__main__":
    unittest.main()
