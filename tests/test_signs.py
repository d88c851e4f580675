"""Weights: signs, the weights of rows, and their order."""

import itertools

from rowgames.errors import BadRow, BadSigns
from rowgames.signs import Weights
from helpers import XO, Case, odd_values, values_but

FOUR = Weights(("b", 9), ("a", 0), ("z", 3), ("q", 3))


class TestMaking(Case):
    def test_attributes(self):
        self.same(XO.signs, "xo")
        self.same(XO.pairs, (("x", 1), ("o", 0)))
        self.same(FOUR.signs, "bazq")
        self.assertEqual([len(XO), len(FOUR), len(Weights(("x", 0)))], [2, 4, 1])
        self.assertIsInstance(vars(Weights)["signs"], property)
        self.assertIn("pairs", vars(XO))

    def test_many(self):
        self.raises(BadSigns("many"), Weights)
        self.raises(BadSigns("many"), Weights, *[(sign, 1) for sign in "abcde"])
        self.raises(BadSigns("many"), Weights, None, None, None, None, None)
        self.assertEqual(len(Weights(*[(sign, 1) for sign in "abcd"])), 4)

    def test_the_first_wrong_pair(self):
        wrong = [("x",), ("x", 1, 1), ["x", 1], "x1", (1, "x"), ("xy", 1), ("", 1), ("X", 1), ("1", 1), ("x ", 1),
                 (None, 1), (["x"], 1), ("`", 1), ("{", 1), ("x", -1), ("x", 10), ("x", 10 ** 59), ("x", True),
                 ("x", False), ("x", None), ("x", "1"), ("x", (1,)), ()]
        for pair in wrong:
            self.raises(BadSigns(0), Weights, pair)
            self.raises(BadSigns(1), Weights, ("y", 1), pair)
            self.raises(BadSigns(1), Weights, ("y", 1), pair, ("y", 2), None)
            self.raises(BadSigns(3), Weights, ("a", 0), ("b", 9), ("c", 5), pair)

    def test_any_values(self):
        for value in values_but(("x", 1)):
            self.raises(BadSigns(0), Weights, value)
            self.raises(BadSigns(2), Weights, ("a", 1), ("b", 1), (value, 1) if value not in ("x", "q") else None)
            if not (isinstance(value, int) and not isinstance(value, bool) and 0 <= value <= 9):
                self.raises(BadSigns(0), Weights, ("x", value))

    def test_bounds_of_weights_and_letters(self):
        self.same(Weights(("a", 0), ("z", 9)).pairs, (("a", 0), ("z", 9)))

    def test_a_sign_twice(self):
        self.raises(BadSigns(1), Weights, ("x", 1), ("x", 0))
        self.raises(BadSigns(2), Weights, ("x", 1), ("o", 0), ("x", 1))
        self.raises(BadSigns(3), Weights, ("x", 1), ("o", 0), ("y", 1), ("o", 0))

    def test_of_a_list_and_of_a_tuple(self):
        pairs = [("x", 1), ("o", 0)]
        self.assertEqual(Weights.of(pairs), XO)
        made = Weights.of(pairs)
        pairs.append(("y", 2))
        pairs[0] = None
        self.same(made.pairs, (("x", 1), ("o", 0)))
        self.assertEqual(Weights.of(tuple(made.pairs)), XO)
        self.assertEqual(Weights.of(pairs=made.pairs), XO)
        self.assertIs(type(made), Weights)
        self.raises(BadSigns("many"), Weights.of, [])
        self.raises(BadSigns("many"), Weights.of, ())
        self.raises(BadSigns(1), Weights.of, [("x", 1), ["o", 0]])


class TestAsking(Case):
    def test_in(self):
        for value in odd_values():
            self.same(value in XO, isinstance(value, str) and value in ("x", "o"))
        self.assertTrue("o" in XO)
        self.assertFalse("xo" in XO)
        self.assertFalse("" in XO)
        self.assertFalse("ba" in FOUR)

    def test_weight_of_a_sign(self):
        self.same([FOUR[sign] for sign in "bazq"], [9, 0, 3, 3])
        for value in values_but("x", "q"):
            self.assertIs(self.raises(BadSigns(value), lambda: XO[value]).part, value)
        self.raises(BadSigns("q"), lambda: XO["q"])

    def test_equal(self):
        self.assertTrue(XO == Weights(("x", 1), ("o", 0)))
        self.assertFalse(XO == Weights(("o", 0), ("x", 1)))
        self.assertFalse(XO == Weights(("x", 2), ("o", 0)))
        self.assertFalse(XO == Weights(("y", 1), ("o", 0)))
        self.assertFalse(XO == Weights(("x", 1)))
        self.assertTrue(XO != Weights(("x", 1)))
        for value in odd_values():
            if value is not XO:
                self.same(XO == value, False)
        self.assertFalse(XO == (("x", 1), ("o", 0)))

    def test_the_weight_of_a_row(self):
        self.same([XO(row) for row in ("", "x", "o", "xoxx")], [0, 1, 0, 3])
        self.same(FOUR("bazqbb"), 33)
        self.same(XO(row="xx"), 2)
        self.same(XO("x" * 1000), 1000)

    def test_what_is_no_row(self):
        for ask in (XO, XO.place):
            for value in odd_values():
                if not isinstance(value, str):
                    self.raises(BadRow(0), ask, value)
            self.raises(BadRow(0), ask, "q")
            self.raises(BadRow(1), ask, "xyo")
            self.raises(BadRow(3), ask, "xox-o")
            self.raises(BadRow(2), ask, "xxX")
            self.raises(BadRow(2), ask, "xo\n")
            self.raises(BadRow(1), ask, "oqxqx")
            self.raises(BadRow(0), ask, "~" * 12000)

    def test_place(self):
        self.same(XO.place("xox"), (2, 3, (0, 1, 0)))
        self.same(XO.place(""), (0, 0, ()))
        self.same(FOUR.place("qzab"), (15, 4, (3, 2, 1, 0)))
        self.same(XO.place(row="o"), (0, 1, (1,)))

    def test_the_order_of_rows(self):
        rows = ["".join(signs) for length in range(4) for signs in itertools.product("xo", repeat=length)]
        expected = sorted(rows, key=lambda row: (row.count("x"), len(row), ["xo".index(sign) for sign in row]))
        self.assertEqual(sorted(rows, key=XO.place), expected)


class TestRows(Case):
    def test_rows_of_a_length(self):
        for weights in (XO, FOUR, Weights(("x", 5))):
            for length in range(5):
                expected = ["".join(signs) for signs in itertools.product(weights.signs, repeat=length)]
                self.same(list(weights.rows(length)), expected)
        self.same(list(XO.rows(length=1)), ["x", "o"])

    def test_the_first_rows_of_a_great_length(self):
        rows = XO.rows(1000)
        self.assertEqual([next(rows) for _ in range(4)],
                         ["x" * 998 + end for end in ("xx", "xo", "ox", "oo")])

    def test_two_by_turns(self):
        one, other = XO.rows(2), XO.rows(2)
        self.assertEqual([next(one), next(other), next(one), next(other)], ["xx", "xx", "xo", "xo"])


class TestRenamed(Case):
    def test_renamed(self):
        self.same(XO.renamed({"o": "x", "x": "a"}).pairs, (("a", 1), ("x", 0)))
        self.same(XO.renamed(names={"x": "o", "o": "x"}).pairs, (("o", 1), ("x", 0)))
        self.assertEqual(XO.renamed({"x": "x", "o": "o"}), XO)
        self.same(XO.pairs, (("x", 1), ("o", 0)))

    def test_names_stay_as_they_are(self):
        names = {"x": "a", "o": "b"}
        made = XO.renamed(names)
        self.assertEqual(names, {"x": "a", "o": "b"})
        names["x"] = "c"
        self.same(made.signs, "ab")

    def test_what_is_no_such_dict(self):
        wrong = [{"x": "a"}, {"x": "a", "o": "a"}, {"x": "a", "o": "b", "q": "c"}, {"x": "a", "q": "b"},
                 {"x": "a", "o": "B"}, {"x": "a", "o": "bb"}, {"x": "a", "o": ""}, {"x": "a", "o": 1},
                 {"x": "a", "o": ["b"]}, {"x": ["a"], "o": ["b"]}, {"x": None, "o": "b"}, {0: "a", 1: "b"},
                 [("x", "a"), ("o", "b")], ("ab",), "ab", {}, None, {"x": "a", None: "b"}, {("x",): "a", "o": "b"}]
        for names in wrong + odd_values():
            self.raises(BadSigns("names"), XO.renamed, names)
