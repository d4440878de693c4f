"""sizes and station."""

import unittest

from tests.support import LIMIT, ask_of, row, sizes, station

EVERY_KIND = (
    "chance T tell add(1, pick(if first(yes : 1, no : if second(a : 2, b : 3, c : 4)) : 1,"
    " if second(a : add(5, 6), b : 7, c : if first(yes : 8, no : 9)) : 2, 10 : 0))"
)
NO_STATION = "chance T tell add(1, pick(2 : 1, 3 : 1))"


def named(text):
    return row(text.encode())


class Sizes(unittest.TestCase):
    def test_one_worth(self):
        self.assertEqual(ask_of("chance T tell 1", sizes()), [[1, 0, 1]])

    def test_no_station(self):
        self.assertEqual(ask_of(NO_STATION, sizes()), [[4, 0, 1]])

    def test_every_kind(self):
        # 9 worths, 2 adds, 1 lots, 4 places of stations.
        self.assertEqual(ask_of(EVERY_KIND, sizes()), [[16, 2, 6]])

    def test_a_station_at_several_places_counts_once(self):
        text = "chance T tell if S(a : if S(a : 1, b : 2), b : if S(a : 3, b : 4))"
        self.assertEqual(ask_of(text, sizes()), [[7, 1, 2]])

    def test_many_policies(self):
        tree = "0"
        for k in range(12):
            tree = f"if s{k}({','.join(f'l{n}:0' for n in range(7))},z:{tree})"
        self.assertEqual(ask_of("chance T tell " + tree, sizes()), [[12 * 8 + 1, 12, 8 ** 12]])


class Stations(unittest.TestCase):
    def test_in_the_order_of_the_text(self):
        told = ask_of(EVERY_KIND, station(0), station(1), station(2))
        self.assertEqual(told, [
            [1] + named("first") + [2, 2] + named("yes") + named("no"),
            [1] + named("second") + [2, 3] + named("a") + named("b") + named("c"),
            [-2],
        ])

    def test_the_outer_station_comes_first(self):
        text = "chance T tell if z(a : if y(k : 1, l : 2), b : if x(c : 1, d : if y(k : 3, l : 4)))"
        told = ask_of(text, station(0), station(1), station(2))
        self.assertEqual(told, [
            [1] + named("z") + [1, 2] + named("a") + named("b"),
            [1] + named("y") + [2, 2] + named("k") + named("l"),
            [1] + named("x") + [1, 2] + named("c") + named("d"),
        ])

    def test_long_names_and_many_labels(self):
        labels = [f"Label{k}0123456789"[:16] for k in range(8)]
        text = "chance T tell if Abcdefgh12345678(" + ", ".join(f"{label} : 1" for label in labels) + ")"
        expected = [1] + named("Abcdefgh12345678") + [1, 8]
        for label in labels:
            expected += named(label)
        self.assertEqual(ask_of(text, station(0)), [expected])

    def test_no_such_station(self):
        for number in (-1, -2, 2, 3, LIMIT, -LIMIT):
            self.assertEqual(ask_of(EVERY_KIND, station(number)), [[-2]])
        for number in (0, -1, 1, LIMIT, -LIMIT):
            self.assertEqual(ask_of(NO_STATION, station(number)), [[-2]])

    def test_the_last_of_12(self):
        tree = "0"
        for k in reversed(range(12)):
            tree = f"if s{k}(a : 1, b : {tree})"
        told = ask_of("chance T tell " + tree, station(11), station(12))
        self.assertEqual(told, [[1] + named("s11") + [1, 2] + named("a") + named("b"), [-2]])


if __name__ == "__main__":
    unittest.main()
