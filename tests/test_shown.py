"""shown: the one form, and that it is read as the same game (promise 1)."""

import unittest

from tests.support import UMBRELLA, ask_of, form_of, outcomes, shown, sizes, spread, station, worth


class Shown(unittest.TestCase):
    def assertForm(self, text, form):
        with self.subTest(text=text):
            self.assertEqual(form_of(text), form)
            self.assertEqual(form_of(form), form)

    def test_length_then_bytes(self):
        self.assertEqual(ask_of("chance T tell 1", shown()), [[16] + list(b"chance T\ntell 1\n")])

    def test_each_kind_of_tree(self):
        self.assertForm("chance T tell -7", "chance T\ntell -7\n")
        self.assertForm("chance T tell add(1,2)", "chance T\ntell add(1, 2)\n")
        self.assertForm("chance T tell pick(1:2,3:4)", "chance T\ntell pick(1 : 2, 3 : 4)\n")
        self.assertForm("chance T tell if S(a:1,b:2)", "chance T\ntell if S(a : 1, b : 2)\n")

    def test_all_in_one_another(self):
        self.assertForm(
            "chance All2 tell pick(add(1,if S(a:pick(1:1,2:0),b:add(-1,0))):1,if s(a:3,A:4):2,5:3)",
            "chance All2\ntell pick(add(1, if S(a : pick(1 : 1, 2 : 0), b : add(-1, 0))) : 1, if s(a : 3, A : 4) : 2,"
            " 5 : 3)\n",
        )

    def test_blanks_and_remarks(self):
        self.assertForm(
            "#first\n\tchance#(\n Umbrella\n\ntell pick ( if  take ( yes:5 ,no:0 ):1 / 3# a third\n,"
            "if take(yes : -1, no : 2)\n:\n2\t/\t3 ) # end",
            "chance Umbrella\ntell pick(if take(yes : 5, no : 0) : 1/3, if take(yes : -1, no : 2) : 2/3)\n",
        )

    def test_fractions_in_lowest_terms(self):
        forms = {
            "2/4": "1/2", "-2/4": "-1/2", "0/7": "0", "6/3": "2", "-6/3": "-2", "1/1": "1", "7/1": "7",
            "1000000000/1000000000": "1", "-1000000000/4": "-250000000", "3 / 1000000000": "3/1000000000",
            "999999999/1000000000": "999999999/1000000000", "12 /#\n 8": "3/2",
        }
        for written, form in forms.items():
            self.assertForm(f"chance T tell {written}", f"chance T\ntell {form}\n")
            self.assertForm(f"chance T tell add({written}, 1)", f"chance T\ntell add({form}, 1)\n")
            if not written.startswith("-"):
                self.assertForm(f"chance T tell pick(1:{written},2:3/6)", f"chance T\ntell pick(1 : {form}, 2 : 1/2)\n")

    def test_shares_are_not_divided_by_their_sum(self):
        self.assertForm("chance T tell pick(1:4,2:4)", "chance T\ntell pick(1 : 4, 2 : 4)\n")

    def test_read_as_the_same_game(self):
        calls = [sizes(), station(0), station(1)]
        for policy in ((0,), (1,), (2,)):
            calls += [worth(*policy), outcomes(*policy), spread(*policy)]
        text = "chance T tell add(2/4,pick(if S(a:1,b:6/4,c:-2):3/9,if S(a:0,b:0,c:10/4):2/3,7:0))"
        self.assertEqual(ask_of(form_of(text), *calls), ask_of(text, *calls))
        self.assertEqual(ask_of(form_of(UMBRELLA), *calls), ask_of(UMBRELLA, *calls))


if __name__ == "__main__":
    unittest.main()
