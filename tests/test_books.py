"""Books: what they are made of, their moves, and how they are joined and changed."""

import itertools

from rowgames.books import Book
from rowgames.errors import BadBook, BadMove, BadRow, BadSigns, Heavier, OtherSigns, Unlessened
from rowgames.rules import Rule
from rowgames.signs import Weights
from helpers import XO, Case, odd_values, values_but

ABC = Weights(("a", 5), ("b", 2), ("c", 0))
EIGHT = [Rule.read(text) for text in ("a>b", "a>c", "b>c", "b>", "a>", "aa>a", "[ab>ac", "ba>ca]")]


def slow_moves(rules, row):
    """The moves from a row, told by the places alone."""
    return [(place, index) for place in range(len(row)) for index, rule in enumerate(rules)
            if row[place:].startswith(rule.old) and (place == 0 or not rule.left)
            and (place + len(rule.old) == len(row) or not rule.right)]


class TestMaking(Case):
    def test_attributes(self):
        book = Book(ABC, *EIGHT)
        self.assertIs(book.weights, ABC)
        self.assertIsInstance(book.rules, tuple)
        self.assertEqual(book.rules, tuple(EIGHT))
        self.assertEqual(sorted(vars(book)), ["rules", "weights"])
        self.same([book.longest, Book(ABC).longest, Book(ABC, EIGHT[0]).longest], [2, 0, 1])
        self.same(Book(ABC, Rule("a", ""), Rule("abca", ""), Rule("bb", "")).longest, 4)
        self.same([len(book), len(Book(ABC)), Book(ABC).rules], [8, 0, ()])

    def test_most(self):
        self.same([Book.MOST, Book(ABC).MOST], [8, 8])
        self.assertIsInstance(Book.longest, property)

    def test_no_weights_or_too_many_rules(self):
        for value in odd_values():
            if not isinstance(value, Weights):
                self.raises(BadBook(None), Book, value)
                self.raises(BadBook(None), Book, value, None)
        self.raises(BadBook(None), Book, ABC, *EIGHT, Rule("b", "cc"))
        self.raises(BadBook(None), Book, ABC, *EIGHT, None)
        self.raises(BadBook(None), Book, ABC, *[None] * 9)
        self.raises(BadBook(0), Book, ABC, *[None] * 8)

    def test_the_first_wrong_rule(self):
        for value in odd_values():
            if not isinstance(value, Rule):
                self.raises(BadBook(0), Book, XO, value)
                self.raises(BadBook(1), Book, XO, Rule("x", "o"), value, value)
        self.raises(BadBook(1), Book, XO, Rule("x", "o"), Rule("x", "q"))
        self.raises(BadBook(1), Book, XO, Rule("x", "o"), Rule("q", "x"))
        self.raises(BadBook(0), Book, XO, Rule("xxxq", ""))
        self.raises(BadBook(2), Book, XO, Rule("x", "o"), Rule("x", ""), Rule("x", "o"))
        self.raises(BadBook(1), Book, XO, Rule("x", "o"), Rule("x", "o"), Rule("x", "o"), None)
        self.raises(BadBook(1), Book, XO, Rule("x", "o", left=True), Rule("x", "o", left=True))
        self.assertEqual(len(Book(XO, Rule("x", "o"), Rule("x", "o", left=True), Rule("x", "o", right=True))), 3)

    def test_heavier(self):
        error = self.raises(Heavier(1), Book, XO, Rule("x", "o"), Rule("o", "oo"), Rule("o", "x"))
        self.compare_cause(error, 0, 0)
        self.compare_cause(self.raises(Heavier(0), Book, ABC, Rule("ab", "aab")), 7, 12)
        self.compare_cause(self.raises(Heavier(0), Book, ABC, Rule("c", "")), 0, 0)
        self.compare_cause(self.raises(Heavier(0), Book, ABC, Rule("a", "acc")), 5, 5)
        self.compare_cause(self.raises(Heavier(2), Book, ABC, Rule("a", "bb"), Rule("aa", "bbbb"), Rule("b", "a")), 2, 5)

    def compare_cause(self, error, old, new):
        self.assertIs(type(error.__cause__), Unlessened)
        self.same(vars(error.__cause__), {"old": old, "new": new})

    def test_heavier_stands_behind_wrong_rules(self):
        self.raises(BadBook(1), Book, XO, Rule("o", "x"), None)
        self.raises(BadBook(1), Book, XO, Rule("o", "x"), Rule("o", "x"))
        self.raises(BadBook(2), Book, XO, Rule("o", "x"), Rule("o", "oo"), Rule("q", ""))

    def test_of_a_list_and_of_a_tuple(self):
        rules = list(EIGHT[:3])
        book = Book.of(ABC, rules)
        rules.append(None)
        rules[0] = None
        self.assertEqual(book.rules, tuple(EIGHT[:3]))
        self.assertEqual(Book.of(weights=ABC, rules=tuple(EIGHT[:3])), book)
        self.assertIs(type(book), Book)
        self.same(Book.of(ABC, []).rules, ())
        self.raises(BadBook(None), Book.of, None, [])
        self.raises(BadBook(None), Book.of, ABC, [None] * 9)
        self.raises(BadBook(1), Book.of, ABC, (EIGHT[0], None))
        self.compare_cause(self.raises(Heavier(0), Book.of, ABC, (Rule("c", "b"),)), 0, 2)


class TestAsking(Case):
    def test_rules_by_index(self):
        book = Book(ABC, *EIGHT)
        self.assertTrue(all(book[k] is EIGHT[k] for k in range(8)))

    def test_in(self):
        book = Book(ABC, *EIGHT)
        self.assertTrue(all(rule in book for rule in EIGHT))
        self.same(Rule("a", "b") in book, True)
        for value in odd_values() + [Rule("a", "bb"), Rule("a", "b", left=True), "a>b"]:
            self.same(value in book, False)

    def test_equal(self):
        book = Book(ABC, *EIGHT)
        self.assertTrue(book == Book(Weights(("a", 5), ("b", 2), ("c", 0)), *EIGHT))
        self.assertFalse(book == Book(ABC, *EIGHT[:7]))
        self.assertFalse(book == Book(ABC, *EIGHT[::-1]))
        self.assertFalse(book == Book(Weights(("a", 6), ("b", 2), ("c", 0)), *EIGHT))
        self.assertFalse(Book(ABC) == Book(XO))
        self.assertTrue(book != Book(ABC))
        for value in odd_values():
            self.same(book == value, False)


class TestMoves(Case):
    def test_moves_of_all_short_rows(self):
        book = Book(ABC, *EIGHT)
        for length in range(6):
            for row in map("".join, itertools.product("abc", repeat=length)):
                moves = slow_moves(EIGHT, row)
                led = [row[:place] + EIGHT[k].new + row[place + len(EIGHT[k].old):] for place, k in moves]
                self.same(book(row), moves)
                self.same(book.led_to(row), led)
                self.same(book.finished(row), moves == [])
                self.same([book.led(row, move) for move in moves], led)

    def test_repetitions_stay(self):
        book = Book(XO, Rule("x", ""))
        self.same(book.led_to("xx"), ["x", "x"])
        self.same(book(row="xox"), [(0, 0), (2, 0)])
        self.same(book.led_to(row="x"), [""])

    def test_a_book_without_rules(self):
        self.same([Book(XO)("xxx"), Book(XO).finished("xxx"), Book(XO).led_to("xxx")], [[], True, []])
        self.raises(BadMove("rule"), Book(XO).led, "x", (0, 0))

    def test_the_lists_belong_to_the_caller(self):
        book = Book(XO, Rule("x", ""))
        moves, rows = book("xx"), book.led_to("xx")
        moves.clear()
        rows.clear()
        self.same([book("xx"), book.led_to("xx")], [[(0, 0), (1, 0)], ["x", "x"]])

    def test_what_is_no_row(self):
        book = Book(XO, Rule("x", ""))
        for ask in (book, book.finished, book.led_to, lambda row: book.led(row, None)):
            for value in odd_values():
                if not isinstance(value, str):
                    self.raises(BadRow(0), ask, value)
            self.raises(BadRow(2), ask, "xoqx")
            self.raises(BadRow(1), ask, "x\n")

    def test_what_is_no_move(self):
        book = Book(XO, Rule("x", ""), Rule("oxo", "", right=True), Rule("x", "oo", left=True))
        self.same(book.led(move=(4, 1), row="xxoxoxo"), "xxox")
        for value in values_but((0, 0)) + [(0,), (0, 0, 0), (0, True), (False, 0), (0, "0"), (None, 0), ((0, 0),)]:
            self.raises(BadMove("form"), book.led, "xx", value)
        for index in (-1, -3, 3, 10 ** 59):
            self.raises(BadMove("rule"), book.led, "xx", (0, index))
            self.raises(BadMove("rule"), book.led, "xx", (99, index))
        for move in ((2, 0), (-1, 0), (0, 1), (2, 1), (10 ** 59, 0), (3, 2), (1, 2)):
            self.raises(BadMove("place"), book.led, "xxoxoxo", move)

    def test_the_row_is_asked_first(self):
        book = Book(XO, Rule("x", ""))
        for move in (None, (0, 5), (7, 0)):
            self.raises(BadRow(1), book.led, "xq", move)

    def test_a_long_row(self):
        book = Book(XO, Rule("xo", "o"), Rule("x", "o", right=True))
        row = "xo" * 499 + "xx"
        self.same(book(row), [(place, 0) for place in range(0, 998, 2)] + [(999, 1)])


class TestChanging(Case):
    def test_a_further_rule(self):
        book = Book(ABC, *EIGHT[:2])
        self.assertEqual((book + EIGHT[2]).rules, tuple(EIGHT[:3]))
        self.assertEqual((book + EIGHT[2]).weights, ABC)
        self.assertEqual(len(book), 2)

    def test_a_wrong_further_rule(self):
        book = Book(ABC, *EIGHT)
        for value in odd_values() + [Rule("b", "cc")]:
            self.raises(BadBook(None), lambda: book + value)
        book = book - EIGHT[7]
        for value in odd_values() + [Rule("q", "a"), EIGHT[3]]:
            self.raises(BadBook(7), lambda: book + value)
        error = self.raises(Heavier(7), lambda: book + Rule("b", "a"))
        self.same(vars(error.__cause__), {"old": 2, "new": 5})
        self.assertEqual(book.rules, tuple(EIGHT[:7]))

    def test_without_a_rule(self):
        book = Book(ABC, *EIGHT[:3])
        for k in range(3):
            self.assertEqual((book - EIGHT[k]).rules, tuple(EIGHT[:k] + EIGHT[k + 1:3]))
        self.assertEqual((book - Rule("a", "b")).rules, tuple(EIGHT[1:3]))
        self.assertEqual(len(book), 3)
        for value in odd_values() + [Rule("a", "bc"), EIGHT[3], "a>b", 0]:
            self.raises(BadBook(None), lambda: book - value)

    def test_joined(self):
        one, other = Book(ABC, *EIGHT[:4]), Book(ABC, *EIGHT[6:1:-1])
        self.assertEqual((one | other).rules, tuple(EIGHT[:4]) + (EIGHT[6], EIGHT[5], EIGHT[4]))
        self.assertEqual((other | one).rules, tuple(EIGHT[6:1:-1]) + (EIGHT[0], EIGHT[1]))
        self.assertEqual(one | one, one)
        self.assertEqual(len(Book(ABC, *EIGHT[:4]) | Book(ABC, *EIGHT[4:])), 8)
        self.assertEqual((len(one), len(other)), (4, 5))

    def test_not_joined(self):
        one = Book(ABC, *EIGHT)
        self.raises(BadBook(None), lambda: one | Book(ABC, Rule("b", "cc")))
        other = Weights(("a", 5), ("b", 2), ("c", 1))
        self.raises(OtherSigns("weights"), lambda: one | Book(other))
        self.raises(OtherSigns("weights"), lambda: one | Book(other, Rule("b", "c")))
        self.raises(OtherSigns("weights"), lambda: Book(XO) | Book(Weights(("o", 0), ("x", 1))))

    def test_turned(self):
        book = -Book(ABC, *EIGHT)
        self.assertEqual([str(rule) for rule in book.rules],
                         ["a>b", "a>c", "b>c", "b>", "a>", "aa>a", "ba>ca]", "[ab>ac"])
        self.assertEqual(book.weights, ABC)
        self.assertEqual(-book, Book(ABC, *EIGHT))

    def test_renamed(self):
        book = Book(ABC, *EIGHT).renamed({"a": "c", "b": "x", "c": "a"})
        self.assertEqual([str(rule) for rule in book.rules],
                         ["c>x", "c>a", "x>a", "x>", "c>", "cc>c", "[cx>ca", "xc>ac]"])
        self.same(book.weights.pairs, (("c", 5), ("x", 2), ("a", 0)))
        self.assertEqual(Book(XO).renamed(names={"x": "o", "o": "x"}), Book(Weights(("o", 1), ("x", 0))))
        for names in odd_values() + [{"a": "x", "b": "y"}, {"a": "x", "b": "x", "c": "y"}, {"a": "A", "b": "b", "c": "c"}]:
            self.raises(BadSigns("names"), Book(ABC, *EIGHT).renamed, names)
