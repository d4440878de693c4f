"""load: which texts are games, and the one fault of each that is none (promise 1)."""

import unittest

from tests.support import NO_NAMES, ask, ask_of, fault_of, form_of, load, shown, sizes, station, to_bytes, worth


def told(tree):
    """A text with this tree, which begins at the place TREE."""
    return "chance T tell " + tree


TREE = len("chance T tell ")


def nested(depth, innermost="1"):
    """A tree so many deep, of adds."""
    return "add(0," * (depth - 1) + innermost + ")" * (depth - 1)


def lots(many):
    return "pick(" + ",".join(["1:1"] * many) + ")"


def choice(name, many):
    return f"if {name}(" + ",".join(f"l{k}:{k}" for k in range(many)) + ")"


def stations(many):
    """A tree with so many stations, in lots of lots; sK is the name of the K-th."""
    names = [f"pick(if s{k}(a:1,b:2):1,0:1)" for k in range(many)]
    halves = [", ".join(f"{name}:1" for name in names[half::2]) for half in (0, 1)]
    return f"pick(pick({halves[0]}):1, pick({halves[1]}):1)"


class FaultCase(unittest.TestCase):
    def assertFault(self, text, code, place):
        with self.subTest(text=text[:60]):
            self.assertEqual(fault_of(text), (code, place))

    def assertTreeFault(self, tree, code, mark):
        """The fault is at the sign behind the first @ of the tree, which is left out of the text."""
        place = tree.index("@")
        self.assertFault(told(tree.replace("@", "", 1)), code, TREE + place)
        self.assertEqual(mark, tree[place + 1:place + 1 + len(mark)])

    def assertGame(self, text):
        with self.subTest(text=text[:60]):
            self.assertEqual(ask(load(text)), [[1]])


class Length(FaultCase):
    """Code 1, and the length of a text."""

    def test_4096_bytes_are_a_text(self):
        text = told("1").ljust(4096)
        self.assertEqual(len(text), 4096)
        self.assertGame(text)
        self.assertGame(told("1 ").ljust(4096, "#"))

    def test_4097_bytes_are_too_many(self):
        self.assertFault(told("1").ljust(4097), 1, 4096)
        self.assertFault(told("1 ").ljust(8192, "#"), 1, 4096)

    def test_the_length_comes_before_all_other_faults(self):
        self.assertFault("$" * 4097, 1, 4096)
        self.assertFault(" " * 4097, 1, 4096)
        self.assertFault("$" * 4096, 2, 0)

    def test_the_text_ends_too_early(self):
        self.assertFault("", 3, 0)
        self.assertFault("#", 3, 1)
        self.assertFault("# a remark alone", 3, 16)
        self.assertFault(" \t\n# one\n # two\n ", 3, 17)
        whole = ["chance", " T", " tell", " pick", "(", "add", "(", "1", "/", "2", ",", "3", ")", ":", "1", ","]
        whole += ["if", " S", "(", "a", ":", "4", ",", "b", ":", "5", ")", ":", "2", "/", "3", ")"]
        self.assertGame("".join(whole))
        for many in range(len(whole)):
            text = "".join(whole[:many])
            self.assertFault(text, 3, len(text))
            self.assertFault(text + " \n# no more", 3, len(text) + 11)


class Tokens(FaultCase):
    """Code 2, and what tokens are."""

    def test_bytes_that_begin_no_token(self):
        allowed = to_bytes("={}()[],;:/|#-> \t\n")
        for byte in range(256):
            sign = bytes([byte])
            if byte in allowed or sign.isalnum():
                continue
            self.assertFault(to_bytes("chance T") + [byte] + to_bytes(" tell 1"), 2, 8)

    def test_greater_and_minus_alone(self):
        self.assertFault(told("> 1"), 2, TREE)
        self.assertFault(told("-"), 2, TREE)
        self.assertFault(told("- 1"), 2, TREE)
        self.assertFault(told("--1"), 2, TREE)
        self.assertFault(told("-a"), 2, TREE)
        self.assertFault(told("1 - >"), 2, TREE + 2)

    def test_every_sign_is_a_token_that_the_grammar_refuses(self):
        for sign in "={}()[],;:/|":
            self.assertFault(told(sign), 3, TREE)
            self.assertFault(told(sign + "$"), 2, TREE + 1)
        self.assertFault(told("->"), 3, TREE)
        self.assertFault(told("->1"), 3, TREE)
        self.assertFault(told("-> $"), 2, TREE + 3)
        self.assertFault(told("1->"), 3, TREE + 1)
        self.assertFault(told("-->"), 2, TREE)

    def test_words_of_16_and_17_signs(self):
        self.assertGame("chance abcdefgh12345678 tell 1")
        self.assertFault("chance abcdefgh123456789 tell 1", 2, 7)
        self.assertFault("abcdefghijklmnopq", 2, 0)
        self.assertFault("abcdefghijklmnop", 3, 0)
        self.assertGame(told("if Abcdefgh12345678(aBcdefgh12345678 : 1, abcdefgh12345678 : 2)"))
        self.assertFault(told("if S(a : 1, abcdefgh123456789 : 2)"), 2, TREE + 12)
        self.assertFault(told("if Z" + "z" * 4000), 2, TREE + 3)

    def test_numbers_at_their_bounds(self):
        for number in ("0", "1", "-1", "10", "1000000000", "-1000000000", "999999999", "-999999999"):
            self.assertGame(told(number))
            self.assertGame(told(f"add({number}, 1)"))
        for number in (
            "1000000001", "-1000000001", "2000000000", "10000000000", "-10000000000", "9" * 4000, "-" + "9" * 4000,
            "00", "01", "-0", "-00", "-01", "0000000001", "01000000000",
        ):
            self.assertFault(told(number), 2, TREE)
            self.assertFault(told(f"add({number}, 1)"), 2, TREE + 4)
        self.assertGame(told("1/1000000000"))
        self.assertFault(told("1/1000000001"), 2, TREE + 2)
        self.assertFault(told("1/00"), 2, TREE + 2)

    def test_numbers_and_words_beside_one_another(self):
        self.assertFault(told("1a"), 3, TREE + 1)
        self.assertFault(told("1-1"), 3, TREE + 1)
        self.assertFault("chance1 T tell 1", 3, 0)
        self.assertGame("chance T tell-1")
        self.assertGame("chance T tell-1#")

    def test_blanks_and_remarks_between_all_tokens(self):
        tokens = "chance T tell pick ( add ( -1 / 2 , 3 ) : 1 / 3 , if S ( a : 4 , b : 5 ) : 2 )".split()
        plain = form_of(" ".join(tokens))
        for between in ("\t", "\n", "  \n\t ", "#\n", " # ; $ ( pick \xff\x00\x0d #\n", "#a\n#b\n"):
            text = between + between.join(tokens) + between
            self.assertEqual(form_of(text), plain)
        self.assertEqual(form_of(" ".join(tokens) + " # to the end"), plain)

    def test_a_remark_ends_before_a_line_feed_alone(self):
        self.assertFault(told("# 1\r2\t3"), 3, TREE + 7)
        self.assertEqual(form_of(told("# 1\n2")), "chance T\ntell 2\n")

    def test_a_carriage_return_is_no_blank(self):
        self.assertFault("chance T\r\ntell 1", 2, 8)

    def test_no_token_comes_before_the_grammar(self):
        self.assertFault("tell ( $", 2, 7)
        self.assertFault(told("pick(1:0,1:0) $"), 2, TREE + 14)
        self.assertFault(told("1/0 -0"), 2, TREE + 4)
        self.assertFault("? $", 2, 0)


class Grammar(FaultCase):
    """Code 3."""

    def test_what_a_game_begins_with(self):
        self.assertGame("chance T tell 1")
        self.assertFault("Chance T tell 1", 3, 0)
        self.assertFault("tell T tell 1", 3, 0)
        self.assertFault("1", 3, 0)
        self.assertFault("chance 1 tell 1", 3, 7)
        self.assertFault("chance T Tell 1", 3, 9)
        self.assertFault("chance T 1", 3, 9)
        self.assertFault("chance T tell x", 3, TREE)
        self.assertFault("chance T tell tell", 3, TREE)

    def test_nothing_behind_the_tree(self):
        for behind in ("1", ")", ",", ";", "chance", "/ /", "x", "add(1, 1)"):
            self.assertFault(told("add(1, 2) " + behind), 3, TREE + 10)
        self.assertFault(told("1 2"), 3, TREE + 2)
        self.assertFault(told("1/2/3"), 3, TREE + 3)
        self.assertFault(told("1 -> 2"), 3, TREE + 2)
        self.assertFault(told("1/2") + " " + told("1"), 3, TREE + 4)

    def test_every_word_that_is_no_name(self):
        for word in NO_NAMES:
            self.assertFault(f"chance {word} tell 1", 3, 7)
            self.assertFault(told(f"if {word}(a : 1, b : 2)"), 3, TREE + 3)
            self.assertFault(told(f"if S({word} : 1, b : 2)"), 3, TREE + 5)
            self.assertFault(told(f"if S(a : 1, {word} : 2)"), 3, TREE + 12)
            name = word.upper()
            self.assertGame(f"chance {name} tell if {name}({name} : 1, b : 2)")
            name = word + "0"
            self.assertGame(f"chance {name} tell if {name}({name} : 1, b : 2)")

    def test_add_is_a_name_where_a_name_has_to_stand(self):
        text = "chance add tell if add(add : add(1, 2), b : 3)"
        self.assertEqual(form_of(text), "chance add\ntell if add(add : add(1, 2), b : 3)\n")
        self.assertFault(told("add"), 3, TREE + 3)
        self.assertFault(told("add : 1"), 3, TREE + 4)

    def test_other_names_where_a_tree_has_to_begin(self):
        for word in NO_NAMES:
            if word not in ("if", "pick"):
                self.assertFault(told(word + "(1 : 1, 2 : 1)"), 3, TREE)
        self.assertFault(told("Add(1, 2)"), 3, TREE)
        self.assertFault(told("pick (Pick(1:1,2:1) : 1, 1 : 1)"), 3, TREE + 6)

    def test_adds(self):
        self.assertGame(told("add(-1/2, 3)"))
        for tree in (
            "add@[1, 2)", "add(@x, 2)", "add(@add(1, 2), 2)", "add(@, 2)", "add(1@; 2)", "add(1 @: 2)",
            "add(1, @x)", "add(1, 2@, 3)", "add(1, 2@]", "add(1@)", "add(1/@, 2)", "add(1/2@/3, 2)", "add(@)",
        ):
            self.assertTreeFault(tree, 3, tree[tree.index("@") + 1])

    def test_lots(self):
        for tree in (
            "pick @1", "pick(@)", "pick(1@)", "pick(1 @, 2 : 1)", "pick(1 : @)", "pick(1 : @x, 2 : 1)",
            "pick(1 : @add(1, 1), 2 : 1)", "pick(1 : 1@)", "pick(1 : 1@;", "pick(1 : 1, @)", "pick(1 : 1, @x : 1)",
            "pick(1 : 1, 2 : 1@ ", "pick(1 : 1, 2 : 1, @)", "pick(1 : 1, 2 : 1@]", "pick(1 : 1 @2 : 1)",
            "pick(1 : 1, @, 2 : 1)", "pick(1 : 1, 2 : 1/@)", "pick @x(1 : 1, 2 : 1)",
        ):
            tree = tree.rstrip()
            if tree.endswith("@"):
                self.assertFault(told(tree[:-1]), 3, TREE + len(tree) - 1)
            else:
                self.assertTreeFault(tree, 3, tree[tree.index("@") + 1])

    def test_stations(self):
        for tree in (
            "if@(a : 1, b : 2)", "if @1(a : 1, b : 2)", "if S @x(a : 1)", "if S(@)", "if S(@1 : a, b : 2)", "if S(a@)",
            "if S(a @= 1, b : 2)", "if S(a : @)", "if S(a : @x, b : 2)", "if S(a : 1@)", "if S(a : 1@; b : 2)",
            "if S(a : 1, @)", "if S(a : 1, b : 2, @)", "if S(a : 1, b : 2@]", "if S(a : 1 @b : 2)",
            "if S(a : 1, @2 : 2)", "if S(a : 1 @: 1, b : 2)",
        ):
            self.assertTreeFault(tree, 3, tree[tree.index("@") + 1])


class TooMany(FaultCase):
    """Code 4."""

    def test_trees_24_and_25_deep(self):
        self.assertGame(told(nested(24)))
        self.assertEqual(ask_of(told(nested(24)), sizes()), [[24, 0, 1]])
        self.assertFault(told(nested(25)), 4, TREE + 24 * 6)
        self.assertFault(told(nested(30)), 4, TREE + 24 * 6)

    def test_the_25th_whatever_it_is(self):
        for innermost in ("1", "add(1, 2)", "pick", "if", "x", ")", ";", "->", "chance", ""):
            self.assertFault(told("add(0," * 24 + " " + innermost), 4, TREE + 24 * 6 + 1)
        self.assertFault(told("add(0," * 24 + " # no more"), 4, TREE + 24 * 6 + 10)
        self.assertFault(told("add(0," * 23 + ";"), 3, TREE + 23 * 6)

    def test_depth_in_lots_and_stations(self):
        self.assertGame(told(nested(23, "pick(1:1,2:1)")))
        self.assertFault(told(nested(24, "pick(1:1,2:1)")), 4, TREE + 23 * 6 + 5)
        self.assertFault(told(nested(23, "pick(1:1,add(1,2):1)")), 4, TREE + 22 * 6 + 15)
        self.assertGame(told(nested(23, "if S(a:1,b:2)")))
        self.assertFault(told(nested(24, "if S(a:1,b:2)")), 4, TREE + 23 * 6 + 7)
        self.assertFault(told("add(0," * 23 + "if S(a:"), 4, TREE + 23 * 6 + 7)
        deep = "7"
        for level in range(23):
            deep = f"pick({deep}:1,0:1)" if level % 2 else f"if s{level % 5}(a:{deep},b:0)"
        self.assertGame(told(deep))
        text = told(f"pick(0:1,{deep}:1)")
        self.assertFault(text, 4, text.index("7"))

    def test_2_to_8_ways(self):
        for many in range(2, 9):
            self.assertEqual(ask_of(told(lots(many)), sizes()), [[many + 1, 0, 1]])
        self.assertFault(told(lots(1)), 3, TREE + 8)
        self.assertFault(told(lots(9)), 4, TREE + 5 + 8 * 4)
        self.assertFault(told(lots(12)), 4, TREE + 5 + 8 * 4)

    def test_a_ninth_way_by_what_it_begins_with(self):
        eight = lots(8)[:-1] + ","
        for begin in ("1", "-5", "add", "pick", "if"):
            self.assertFault(told(eight + begin), 4, TREE + len(eight))
        for begin in ("x", ")", "chance", ",", ";", "->", ""):
            self.assertFault(told(eight + begin), 3, TREE + len(eight))

    def test_2_to_8_labels(self):
        for many in range(2, 9):
            self.assertEqual(ask_of(told(choice("S", many)), sizes()), [[many + 1, 1, many]])
        self.assertFault(told(choice("S", 1)), 3, TREE + 9)
        self.assertFault(told(choice("S", 9)), 4, TREE + 5 + 8 * 5)

    def test_a_ninth_label_by_what_it_is(self):
        eight = choice("S", 8)[:-1] + ","
        for begin in ("x", "add", "l0"):
            self.assertFault(told(eight + begin), 4, TREE + len(eight))
        for begin in ("1", ")", "pick", "if", ",", "->", ""):
            self.assertFault(told(eight + begin), 3, TREE + len(eight))


class Small(FaultCase):
    """Codes 7 and 11."""

    def test_denominators_below_1(self):
        for tree in (
            "1/@0", "1 / @0", "0/@0", "1/@-1", "-1/@0", "-1/@-1", "add(1/@0, 2)", "add(1, 2/@-3)",
            "pick(1/@0 : 1, 2 : 1)", "pick(1 : 1/@0, 2 : 1)", "pick(1 : 1, 2 : 0/@-1000000000)",
            "if S(a : 1/@0, b : 1)",
        ):
            self.assertTreeFault(tree, 7, tree[tree.index("@") + 1])

    def test_fractions_of_ways_below_0(self):
        for tree in (
            "pick(1 : @-1, 2 : 1)", "pick(1 : 1, 2 : @-1/2)", "pick(1 : @-1 / 2, 2 : 1)", "pick(1 : @-1000000000",
            "pick(1 : @-1;", "pick(1 : 0, 2 : @-1)",
        ):
            self.assertTreeFault(tree, 7, "-")

    def test_a_fraction_is_read_to_its_end_first(self):
        self.assertTreeFault("pick(1 : -1/@0, 2 : 1)", 7, "0")
        self.assertTreeFault("pick(1 : -1/@-2, 2 : 1)", 7, "-2")
        self.assertTreeFault("pick(1 : -1/@; 2 : 1)", 3, ";")
        self.assertFault(told("pick(1 : -1/"), 3, TREE + 12)
        self.assertTreeFault("pick(1 : @-1/2/0, 2 : 1)", 7, "-1")

    def test_fractions_below_0_elsewhere(self):
        self.assertGame(told("add(-1/2, pick(-3/4 : 1, -5 : 0))"))

    def test_lots_of_no_chance(self):
        self.assertFault(told("pick(1 : 0, 2 : 0)"), 11, TREE)
        self.assertFault(told("add(1, pick(1 : 0/3, 2 : 0, 3 : 0/1000000000))"), 11, TREE + 7)
        self.assertGame(told("pick(1 : 0, 2 : 1/1000000000)"))
        self.assertGame(told("pick(1 : 1, 2 : 0)"))

    def test_lots_of_no_chance_when_their_bracket_is_come_to(self):
        self.assertTreeFault("pick(1 : 0, 2 : 0@;", 3, ";")
        self.assertTreeFault("pick(1 : 0, 2 : 0, 3 : @-1)", 7, "-1")
        self.assertTreeFault("@pick(1 : 0, 2 : 0) ;", 11, "p")
        self.assertTreeFault("pick(@pick(1 : 0, 2 : 0) : 0, 2 : 0)", 11, "pick")
        self.assertTreeFault("pick(1 : 0, @pick(1 : 0, 2 : 0) : 0)", 11, "pick")
        self.assertTreeFault("pick(@pick(1 : 0, 2 : 0) : -1, 2 : 1/0)", 11, "pick")
        self.assertTreeFault("pick(1 : @-1, pick(1 : 0, 2 : 0) : 0)", 7, "-1")

    def test_left_to_right(self):
        self.assertTreeFault("pick(1/@0 : -1, x)", 7, "0")
        self.assertTreeFault("pick(@x : -1, 1/0 : 1)", 3, "x")
        self.assertFault(told("add(1/0," + "add(0," * 24 + "1"), 7, TREE + 6)
        self.assertFault(told("add(0," * 24 + "1/0"), 4, TREE + 24 * 6)


class Stations(FaultCase):
    """Codes 5, 14 and 15."""

    def test_a_label_twice(self):
        self.assertTreeFault("if S(a : 1, @a : 2)", 5, "a")
        self.assertTreeFault("if S(a : 1, b : 2, c : 3, @b : 4, a : 5)", 5, "b")
        self.assertTreeFault("if S(a : 1, b : 2, @b : 3, a : 4)", 5, "b")
        self.assertGame(told("if S(a : 1, A : 2)"))
        self.assertGame(told("if S(a : if T(a : 1, b : 2), b : if T(a : 1, b : 2))"))

    def test_the_first_of_the_labels_that_stood_before(self):
        self.assertTreeFault("if S(a : 1, b : if T(c : 1, c : 2), @a : 3)", 5, "a : 3")

    def test_other_labels(self):
        same = "if S(a : 1, b : 2)"
        self.assertGame(told(f"pick({same} : 1, if S(a : 3, b : 4) : 1)"))
        for tree in ("if @S(a : 1, c : 2)", "if @S(b : 1, a : 2)", "if @S(a : 1, b : 2, c : 3)", "if @S(A : 1, b : 2)"):
            self.assertTreeFault(f"pick({same} : 1, {tree} : 1)", 14, "S")
        self.assertTreeFault("pick(if S(a : 1, b : 2, c : 3) : 1, if @S(a : 1, b : 2) : 1)", 14, "S")
        self.assertTreeFault("if S(a : if @S(b : 1, a : 2), b : 3)", 14, "S")
        self.assertGame(told("if S(a : if S(a : 1, b : 2), b : 3)"))

    def test_12_and_13_stations(self):
        self.assertEqual(ask_of(told(stations(12)), sizes()), [[12 * 5 + 3, 12, 4096]])
        text = told(stations(13))
        names = sorted(range(13), key=lambda k: text.index(f"s{k}("))
        self.assertFault(text, 15, text.index(f"s{names[12]}("))

    def test_many_places_of_12_stations(self):
        tree = "0"
        for k in range(12):
            tree = f"if s{k}(a:{tree},b:if s{k}(a:1,b:2))"
        self.assertEqual(ask_of(told(tree), sizes()), [[12 * 2 + 24 + 1, 12, 4096]])

    def test_one_station_after_the_other(self):
        self.assertTreeFault("pick(if S(a : 1, @a : 2) : 1, if T(b : 1, b : 2) : 1)", 5, "a : 2")
        self.assertTreeFault("if S(a : if T(c : 1, c : 2), @a : 2)", 5, "a")
        self.assertTreeFault("if S(a : if T(c : 1, @c : 2), b : if S(b : 1, b : 2))", 5, "c : 2")
        self.assertTreeFault("pick(if S(a:1,b:2) : 1, if S(a : 1, @a : 2) : 1)", 5, "a : 2")
        self.assertTreeFault("pick(if S(a:1,b:2) : 1, if @S(a : if T(c:1,c:2), c : 2) : 1)", 14, "S")

    def test_the_13th_against_what_stands_in_it(self):
        chain = "if last(a:if x(c:1,c:2),b:2)"
        for k in range(12):
            chain = f"if s{k}(a:1,b:{chain})"
        text = told(chain)
        self.assertFault(text, 15, text.index("last"))
        twice = text.replace("last(a:if x(c:1,c:2),b:2)", "last(a:1,a:2)")
        self.assertFault(twice, 5, twice.index("a:2)"))

    def test_the_grammar_comes_before_the_stations(self):
        self.assertTreeFault("pick(if S(a : 1, a : 2) : 1, 2 : @-1)", 7, "-1")
        self.assertTreeFault("if S(a : 1, a : 2) @;", 3, ";")
        self.assertTreeFault("if S(a : 1, a : @pick(1 : 0, 2 : 0))", 11, "pick")
        self.assertFault(told("if S(a : 1, a : 2, " + ", ".join(f"l{k} : 1" for k in range(7))), 4, TREE + 19 + 6 * 8)


class Form(FaultCase):
    """Code 10."""

    def test_a_form_of_4096_bytes_and_beyond(self):
        for length in (4095, 4096):
            text = text_of_form(length)
            self.assertLess(len(text), 4000)
            self.assertEqual(len(form_of(text)), length)
        for length in (4097, 4098, 4500):
            text = text_of_form(length)
            self.assertLess(len(text), 4000)
            self.assertFault(text, 10, 0)

    def test_the_form_counts_its_fractions_in_lowest_terms(self):
        text = text_of_form(4096)
        self.assertEqual(form_of(text.replace(":1,", ":7/7,", 1)), form_of(text))
        self.assertFault(text.replace(":1,", ":1/7,", 1), 10, 0)

    def test_all_other_faults_come_before_the_form(self):
        text = text_of_form(4097)
        self.assertFault(text + ";", 3, len(text))
        self.assertFault(text + "$", 2, len(text))
        twice = text.replace("tell ", "tell pick(if S(a:1,a:2):1,", 1) + ":1)"
        self.assertFault(twice, 5, twice.index("a:2"))


def text_of_form(length):
    """A text without blanks whose one form has this many bytes."""
    shape = "pick(" + ",".join(["pick(" + ",".join(["pick(" + ",".join(["@:1"] * 6) + "):1"] * 8) + "):1"] * 8) + ")"
    many = shape.count("@")
    spaced = shape.replace(",", ", ").replace(":", " : ")
    missing = length - len(f"chance T\ntell {spaced}\n")
    for leaf in range(many):
        digits = 1 + missing // many + (1 if leaf < missing % many else 0)
        shape = shape.replace("@", "1" * digits, 1)
    return "chance T tell " + shape


class Held(FaultCase):
    def test_a_fault_leaves_the_game_that_was_held(self):
        game = told("if S(a : 1, b : pick(2 : 1, 3 : 1))")
        asked = (shown(), sizes(), station(0), worth(1))
        before = ask_of(game, *asked)
        faults = [
            "x" * 4097, "$", "", told("if S(a : 1, a : 2)"), told("pick(1 : 0, 2 : 0)"), told("1/0"), told(nested(25)),
            told("pick(if S(a : 1, b : 2) : 1, if S(b : 1, a : 2) : 1)"), told(stations(13)),
        ]
        for text in faults:
            after = ask(load(game), load(text), *asked)
            self.assertEqual(after[1][0], 0)
            self.assertEqual(after[2:], before)

    def test_a_fault_leaves_no_game_where_none_was_held(self):
        self.assertEqual(ask(load("chance"), shown()), [[0, 3, 6], [-1]])

    def test_a_game_takes_the_place_of_the_one_before(self):
        other = told("pick(4 : 1, 5 : 0)")
        after = ask(load(told("if S(a : 1, b : 2)")), load(other), shown(), sizes(), station(0), worth(), worth(0))
        self.assertEqual(after[:2], [[1], [1]])
        self.assertEqual(after[2:], ask_of(other, shown(), sizes(), station(0), worth(), worth(0)))


if __name__ == "__main__":
    unittest.main()
