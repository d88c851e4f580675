"""Rules: what they are made of, where they fit, and what comes of them."""

import itertools

from rowgames.errors import BadMove, BadRule, BadText
from rowgames.rules import Rule
from helpers import Case, odd_values

ENDS = [(False, False), (True, False), (False, True), (True, True)]


def all_rules():
    """Rules with stretches over a and b, and with all ends."""
    stretches = ["".join(signs) for length in range(4) for signs in itertools.product("ab", repeat=length)]
    for old in stretches[1:]:
        for new in ("", "a", "ba", "bbab"):
            for left, right in ENDS:
                yield Rule(old, new, left=left, right=right)


def parts(rule):
    return (rule.old, rule.new, rule.left, rule.right)


class TestMaking(Case):
    def test_attributes(self):
        self.same(parts(Rule("xx", "o")), ("xx", "o", False, False))
        self.same(parts(Rule("abcd", "wxyz", left=True)), ("abcd", "wxyz", True, False))
        self.same(parts(Rule(new="", old="x", right=True)), ("x", "", False, True))
        self.assertEqual(sorted(vars(Rule("x", ""))), ["left", "new", "old", "right"])

    def test_the_ends_are_told_by_name(self):
        with self.assertRaises(TypeError):
            Rule("x", "o", True)

    def test_longest(self):
        self.same(Rule.LONGEST, 4)
        self.same(Rule("x", "o").LONGEST, 4)

    def test_wrong_old(self):
        for old in ("", "abcde", "aB", "a-", "a b", " ab", "ab ", "1", "a\n", "`", "{", "a" * 12000):
            self.raises(BadRule("old"), Rule, old, "o")
            self.raises(BadRule("old"), Rule, old, None, left=3, right=3)
        for value in odd_values():
            if value not in ("x", "xo", "q"):
                self.raises(BadRule("old"), Rule, value, "")

    def test_wrong_new(self):
        for new in ("abcde", "aB", "a-", "a b", " ab", "1", "a\n", "a" * 12000):
            self.raises(BadRule("new"), Rule, "x", new)
            self.raises(BadRule("new"), Rule, "x", new, left=None, right=None)
        for value in odd_values():
            if value not in ("", "x", "xo", "q"):
                self.raises(BadRule("new"), Rule, "x", value)

    def test_wrong_ends(self):
        for value in odd_values():
            if not isinstance(value, bool):
                self.raises(BadRule("left"), Rule, "x", "o", left=value)
                self.raises(BadRule("left"), Rule, "x", "o", left=value, right=value)
                self.raises(BadRule("right"), Rule, "x", "o", right=value)
                self.raises(BadRule("right"), Rule, "x", "o", left=True, right=value)

    def test_a_to_z(self):
        self.same(parts(Rule("azaz", "zaza")), ("azaz", "zaza", False, False))


class TestFitting(Case):
    def test_fits(self):
        rule = Rule("aba", "c")
        self.same([rule.fits("ababa", place) for place in range(-5, 8)],
                  [False] * 5 + [True, False, True] + [False] * 5)
        self.same(Rule("b", "").fits("ab", -1), False)
        self.same(Rule("b", "").fits("ab", -(10 ** 59)), False)
        self.same(Rule("b", "").fits("ab", 10 ** 59), False)
        self.same(Rule("b", "").fits(place=1, row="ab"), True)

    def test_both_ends(self):
        self.same([Rule("a", "", left=True).fits("aaa", place) for place in (-1, 0, 1, 2, 3)],
                  [False, True, False, False, False])
        self.same([Rule("a", "", right=True).fits("aaa", place) for place in (-1, 0, 1, 2, 3)],
                  [False, False, False, True, False])
        both = Rule("aa", "", left=True, right=True)
        self.same([both.fits(row, 0) for row in ("a", "aa", "aaa", "")], [False, True, False, False])

    def test_places_against_all_places(self):
        rows = ["".join(signs) for length in range(6) for signs in itertools.product("ab", repeat=length)]
        for rule in all_rules():
            for row in rows:
                expected = []
                for place in range(-2, len(row) + 3):
                    fits = 0 <= place and row[place:].startswith(rule.old)
                    if rule.left and place != 0 or rule.right and place + len(rule.old) != len(row):
                        fits = False
                    if fits:
                        expected.append(place)
                    self.same(rule.fits(row, place), fits)
                self.same(list(rule.places(row)), expected)

    def test_places_overlap_and_are_a_generator(self):
        places = Rule("aa", "a").places("aaaa")
        self.assertEqual([next(places), next(places), next(places), next(places, None)], [0, 1, 2, None])
        self.same(list(Rule("a", "").places(row="ba")), [1])


class TestUsing(Case):
    def test_the_row_at_each_place(self):
        rule = Rule("aba", "c")
        self.same([rule("ababa", 0), rule("ababa", 2)], ["cba", "abc"])
        self.same(Rule("b", "xyz")("abc", 1), "axyzc")
        self.same(Rule("b", "")(row="abc", place=1), "ac")
        self.same(Rule("a", "b", left=True)("aa", 0), "ba")
        self.same(Rule("a", "b", right=True)("aa", 1), "ab")
        self.same(Rule("aa", "", left=True, right=True)("aa", 0), "")

    def test_elsewhere(self):
        rule = Rule("aba", "c")
        for place in (-5, -1, 1, 3, 5, 6, 10 ** 59, -(10 ** 59)):
            self.raises(BadMove("place"), rule, "ababa", place)
        self.raises(BadMove("place"), Rule("a", "", left=True), "aa", 1)
        self.raises(BadMove("place"), Rule("a", "", right=True), "aa", 0)
        self.raises(BadMove("place"), Rule("a", ""), "", 0)
        self.raises(BadMove("place"), Rule("b", ""), "ab", -1)


class TestSigns(Case):
    def test_turned(self):
        self.same(parts(-Rule("abc", "de", left=True)), ("cba", "ed", False, True))
        self.same(parts(-Rule("ab", "", right=True)), ("ba", "", True, False))
        self.same(parts(-Rule("ab", "c")), ("ba", "c", False, False))
        self.same(parts(-Rule("ab", "c", left=True, right=True)), ("ba", "c", True, True))
        for rule in all_rules():
            self.assertEqual(- -rule, rule)

    def test_times(self):
        rule = Rule("x", "o", left=True)
        self.same(parts(rule * 3), ("xxx", "ooo", True, False))
        self.same(parts(4 * rule), ("xxxx", "oooo", True, False))
        self.same(parts(Rule("xy", "", right=True) * 2), ("xyxy", "", False, True))
        self.same(parts(2 * Rule("xy", "ab", right=True, left=True)), ("xyxy", "abab", True, True))
        self.same(parts(rule), ("x", "o", True, False))
        self.assertEqual([rule * 1 == rule, 1 * rule == rule], [True, True])

    def test_times_too_many(self):
        self.raises(BadRule("old"), lambda: Rule("xx", "o") * 3)
        self.raises(BadRule("old"), lambda: 5 * Rule("x", ""))
        self.raises(BadRule("old"), lambda: Rule("xxx", "oooo") * 2)
        self.raises(BadRule("new"), lambda: Rule("xx", "ooo") * 2)
        self.raises(BadRule("new"), lambda: 4 * Rule("x", "oo"))
        for many in (1000, 10 ** 18, 10 ** 59):
            self.raises(BadRule("old"), lambda: Rule("x", "o") * many)
            self.raises(BadRule("old"), lambda: many * Rule("x", ""))

    def test_equal(self):
        rules = list(all_rules())
        for at, rule in enumerate(rules):
            for other in rules[at:at + 40]:
                self.same(rule == other, parts(rule) == parts(other))
        self.assertTrue(Rule("x", "o", left=True) == Rule("x", "o", left=True))
        self.assertFalse(Rule("x", "o", left=True) == Rule("x", "o", right=True))
        self.assertFalse(Rule("x", "o") == Rule("x", ""))
        self.assertFalse(Rule("x", "o") == Rule("y", "o"))
        self.assertTrue(Rule("x", "o") != Rule("y", "o"))
        for value in odd_values():
            if not isinstance(value, Rule):
                self.same(Rule("x", "o") == value, False)
        self.assertFalse(Rule("x", "o") == "x>o")


class TestTexts(Case):
    def test_str(self):
        self.same(str(Rule("xx", "o")), "xx>o")
        self.same(str(Rule("x", "", left=True)), "[x>")
        self.same(str(Rule("x", "", right=True)), "x>]")
        self.same(str(Rule("abcd", "efgh", left=True, right=True)), "[abcd>efgh]")

    def test_read_is_the_way_back(self):
        for rule in all_rules():
            self.assertEqual(Rule.read(str(rule)), rule)
        for text in ("x>", "[x>", "x>]", "[x>]", "abcd>wxyz", "[ab>c]"):
            self.same(str(Rule.read(text)), text)
        self.same(parts(Rule.read(text="[ab>c")), ("ab", "c", True, False))

    def test_what_is_no_text_of_a_rule(self):
        wrong = ["", ">", "[>]", ">x", "x", "[x]", "x<o", "x>o>o", "x>>o", "[[x>o", "x>o]]", "]x>o", "x>o[", "x[>o",
                 "x>]o", "x >o", "x> o", " x>o", "x>o ", "x>o\n", "\nx>o", "X>o", "x>O", "x>1", "abcde>a", "a>abcde",
                 "[x>o]]", "(x>o)", "[", "]", "[]", "x" * 12000, "x>" * 6000]
        for value in wrong + odd_values():
            self.raises(BadText(0, 0), Rule.read, value)
