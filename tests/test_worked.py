"""What the document works out, as far as it speaks of these calls."""

import unittest

from lotsandchoices.game import answers
from tests.support import BOX, UMBRELLA, ask_of, load, outcomes, sizes, spread, worth


class Worked(unittest.TestCase):
    def test_umbrella(self):
        told = ask_of(UMBRELLA, sizes(), worth(0), worth(1), outcomes(0), spread(0))
        self.assertEqual(told, [
            [7, 1, 2], [1, 1, 1], [1, 4, 3], [2, -1, 1, 2, 3, 5, 1, 1, 3], [1, 8, 1],
        ])

    def test_umbrella_number_by_number(self):
        calls = load(UMBRELLA) + [2, 4, 1, 0, 5, 1, 0, 6, 1, 0]
        self.assertEqual(answers(calls), [
            1, 1, 3, 7, 1, 2, 3, 1, 1, 1, 9, 2, -1, 1, 2, 3, 5, 1, 1, 3, 3, 1, 8, 1,
        ])

    def test_box(self):
        told = ask_of(BOX, sizes(), worth(0), worth(1), outcomes(1), spread(1))
        self.assertEqual(told, [
            [7, 1, 2], [1, 1, 2], [1, 1, 4], [2, 0, 1, 3, 4, 1, 1, 1, 4], [1, 3, 16],
        ])


if __name__ == "__main__":
    unittest.main()
