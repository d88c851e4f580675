"""Rows: changes by hand, moves, and trials."""

import random

from rowgames.books import Book
from rowgames.errors import BadBook, BadMove, BadRow, NothingPlayed
from rowgames.rows import Row
from rowgames.rules import Rule
from rowgames.signs import Weights
from helpers import XO, Case, odd_values, values_but

BOOK = Book(XO, Rule("xxo", "oox"), Rule("oxx", "xoo"), Rule("x", "", right=True), Rule("x", "oo"))


def played_row():
    """A row on which a move was played."""
    row = Row(BOOK, "xxoo")
    row.play((0, 0))
    return row


class TestMaking(Case):
    def test_attributes(self):
        row = Row(BOOK, "xox")
        self.assertIs(row.book, BOOK)
        self.assertIn("book", vars(row))
        self.same([row.text, row.weight, row.played, len(row), str(row)], ["xox", 2, (), 3, "xox"])
        row = Row(text="o", book=BOOK)
        self.same([row.text, row.weight, len(row), str(row)], ["o", 0, 1, "o"])
        self.same([Row(BOOK).text, len(Row(BOOK)), str(Row(BOOK))], ["", 0, ""])
        for name in ("text", "weight", "played"):
            self.assertIsInstance(vars(Row)[name], property)

    def test_errors_in_order(self):
        for value in odd_values():
            if not isinstance(value, Book):
                self.raises(BadBook(None), Row, value)
                self.raises(BadBook(None), Row, value, None)
            if not isinstance(value, str):
                self.raises(BadRow(0), Row, BOOK, value)
        self.raises(BadRow(2), Row, BOOK, "xoq")
        self.raises(BadRow(1), Row, BOOK, "x\n")
        self.raises(BadRow(0), Row, BOOK, " ")


class TestAsking(Case):
    def test_an_index_from_both_ends(self):
        row = Row(BOOK, "xoox")
        self.same([row[k] for k in range(-4, 4)], list("xoox" * 2))
        for k in (4, 5, -5, 10 ** 59, -(10 ** 59)):
            self.raises(BadMove("place"), lambda: row[k])
        for k in (0, -1):
            self.raises(BadMove("place"), lambda: Row(BOOK)[k])

    def test_slices(self):
        text = "xooxxo"
        row = Row(BOOK, text)
        for a in [None] + list(range(-8, 9)):
            for b in [None] + list(range(-8, 9)):
                self.same(row[a:b], text[a:b])
        self.same([row[2:], row[:2], row[:], row[1:-1]], ["oxxo", "xo", "xooxxo", "ooxx"])

    def test_in(self):
        row = Row(BOOK, "xooxxo")
        for stretch in ("", "x", "oo", "ooxxo", "xooxxo"):
            self.same(stretch in row, True)
        for value in ["xxx", "xooxxox", "q", "oxo"] + values_but("", "x", "xo"):
            self.same(value in row, False)
        self.same("" in Row(BOOK), True)

    def test_equal(self):
        row = Row(BOOK, "xo")
        self.assertTrue(row == Row(Book(XO, *BOOK.rules), "xo"))
        self.assertTrue(played_row() == Row(BOOK, "ooxo"))
        self.assertFalse(row == Row(BOOK, "ox"))
        self.assertFalse(row == Row(Book(XO), "xo"))
        self.assertTrue(row != Row(BOOK))
        for value in odd_values():
            self.same(row == value, False)
        self.assertFalse(row == "xo")

    def test_weight(self):
        book = Book(Weights(("a", 7), ("b", 2)))
        self.same([Row(book, text).weight for text in ("", "a", "bb", "aab")], [0, 7, 4, 16])


class TestChanges(Case):
    def test_by_an_index(self):
        row = played_row()
        self.same(row.text, "ooxo")
        row[0] = "x"
        self.same([row.text, row.played, row.weight], ["xoxo", (), 2])
        row[-1] = "x"
        self.same([row.text, len(row)], ["xoxx", 4])
        row[-4] = "o"
        self.same(row.text, "ooxx")
        row[3] = "o"
        self.same(row.text, "ooxo")

    def test_by_slices_beside_a_list(self):
        for a in [None] + list(range(-6, 7)):
            for b in [None] + list(range(-6, 7)):
                for text in ("", "x", "oxo", "xxxxxx"):
                    signs = list("oxxo")
                    signs[a:b] = list(text)
                    row = Row(BOOK, "oxxo")
                    row[a:b] = text
                    self.same(row.text, "".join(signs))

    def test_slices_without_ends(self):
        row = Row(BOOK, "oxxo")
        row[2:] = "o"
        self.same(row.text, "oxo")
        row[:1] = "xx"
        self.same(row.text, "xxxo")
        row[:] = ""
        self.same(row.text, "")
        row[:] = "ox"
        self.same(row.text, "ox")

    def test_at_the_end(self):
        row = played_row()
        other = row
        row += "xx"
        self.assertIs(row, other)
        self.same([other.text, other.played, other.weight], ["ooxoxx", (), 3])
        row += ""
        self.same(other.text, "ooxoxx")

    def test_each_change_forgets_the_played_moves(self):
        def put(row):
            row[0] = "o"

        def put_nothing(row):
            row[0:0] = ""

        def put_all(row):
            row[:] = row.text

        def add_nothing(row):
            row += ""

        for change in (put, put_nothing, put_all, add_nothing):
            row = played_row()
            self.same(row.played, ((0, 0),))
            change(row)
            self.same([row.text, row.played], ["ooxo", ()])
            self.raises(NothingPlayed(), row.back)

    def test_one_after_another_beside_a_string(self):
        source = random.Random(5)
        row, text = Row(BOOK, "xo"), "xo"
        for _ in range(400):
            put = "".join(source.choice("xo") for _ in range(source.randrange(4)))
            a, b = source.randrange(-6, 7), source.randrange(-6, 7)
            kind = source.randrange(3)
            if kind == 0 and -len(text) <= a < len(text):
                row[a] = "x"
                signs = list(text)
                signs[a] = "x"
                text = "".join(signs)
            elif kind == 1:
                row[a:b] = put
                signs = list(text)
                signs[a:b] = list(put)
                text = "".join(signs)
            elif kind == 2:
                row += put
                text = text + put
            self.same([row.text, str(row), len(row), row.weight], [text, text, len(text), text.count("x")])

    def test_wrong_places_and_rows(self):
        def put(k, worth):
            def call():
                row[k] = worth
            return call

        def add(worth):
            def call():
                same = row
                same += worth
            return call

        row = played_row()
        for k in (4, -5, 10 ** 59):
            for worth in ("x", None, "q", "xx", ""):
                self.raises(BadMove("place"), put(k, worth))
        for value in odd_values():
            if not isinstance(value, str):
                self.raises(BadRow(0), put(0, value))
                self.raises(BadRow(0), put(slice(0, 1), value))
                self.raises(BadRow(0), add(value))
        for worth in ("", "xx", "oxo", "x" * 1000):
            self.raises(BadRow(0), put(-1, worth))
        for worth, at in (("q", 0), ("xq", 1), ("xxoqo", 3), ("x\n", 1)):
            self.raises(BadRow(at), put(2, worth))
            self.raises(BadRow(at), put(slice(None, None), worth))
            self.raises(BadRow(at), add(worth))
        self.same([row.text, row.played], ["ooxo", ((0, 0),)])


class TestPlaying(Case):
    def test_moves(self):
        row = Row(BOOK, "oxxox")
        self.same(list(row.moves()), BOOK("oxxox"))
        moves = row.moves()
        self.assertEqual(next(moves), (0, 1))
        self.same(list(Row(BOOK, "ooo").moves()), [])

    def test_play_and_back(self):
        row = Row(BOOK, "oxxox")
        self.same(row.play((1, 0)), "oooxx")
        self.same(row.text, "oooxx")
        self.same(row.play(move=(4, 2)), "ooox")
        self.same(row.play((3, 3)), "ooooo")
        self.same(row.played, ((1, 0), (4, 2), (3, 3)))
        self.same([row.back(), row.text, row.played], [(3, 3), "ooox", ((1, 0), (4, 2))])
        self.same([row.back(), row.text], [(4, 2), "oooxx"])
        self.same([row.back(), row.text, row.played], [(1, 0), "oxxox", ()])
        self.raises(NothingPlayed(), row.back)
        self.same(row.text, "oxxox")

    def test_all_plays_are_taken_back(self):
        source = random.Random(3)
        for _ in range(60):
            row = Row(BOOK, "".join(source.choice("xxo") for _ in range(8)))
            texts, moves = [row.text], []
            while list(row.moves()):
                moves.append(source.choice(list(row.moves())))
                texts.append(row.play(moves[-1]))
            self.same(row.played, tuple(moves))
            while moves:
                self.same(row.text, texts.pop())
                self.same(row.back(), moves.pop())
            self.same(row.text, texts[0])

    def test_what_is_no_move(self):
        row = played_row()
        for value in values_but((0, 0)):
            self.raises(BadMove("form"), row.play, value)
        for move in ((0, 4), (0, -1), (50, 9)):
            self.raises(BadMove("rule"), row.play, move)
        for move in ((0, 0), (4, 2), (-2, 3), (10 ** 59, 0)):
            self.raises(BadMove("place"), row.play, move)
        self.same([row.text, row.played], ["ooxo", ((0, 0),)])


class TestTrials(Case):
    def test_a_trial(self):
        row = played_row()
        with row.trial() as same:
            self.assertIs(same, row)
            row.play((2, 3))
            self.same([row.text, row.played], ["ooooo", ((0, 0), (2, 3))])
        self.same([row.text, row.played], ["ooxo", ((0, 0),)])
        self.same([row.back(), row.text], [(0, 0), "xxoo"])

    def test_changes_by_hand_and_takings_back(self):
        row = played_row()
        with row.trial():
            row[:] = "xx"
            self.same([row.text, row.played], ["xx", ()])
            row += "o"
            row.play((0, 0))
            self.same(row.played, ((0, 0),))
        self.same([row.text, row.played], ["ooxo", ((0, 0),)])
        with row.trial():
            row.back()
            self.same([row.text, row.played], ["xxoo", ()])
            row[0] = "o"
        self.same([row.text, row.played], ["ooxo", ((0, 0),)])
        self.same([row.back(), row.text], [(0, 0), "xxoo"])

    def test_trials_in_trials(self):
        row = Row(BOOK, "xxx")
        with row.trial():
            row.play((0, 3))
            with row.trial() as same:
                same[:] = ""
                with row.trial():
                    row += "xo"
                self.same([row.text, row.played], ["", ()])
            self.same([row.text, row.played], ["ooxx", ((0, 3),)])
            with row.trial():
                row.back()
            self.same([row.text, row.played], ["ooxx", ((0, 3),)])
        self.same([row.text, row.played], ["xxx", ()])

    def test_left_by_an_error(self):
        row = played_row()
        with self.assertRaises(KeyError):
            with row.trial():
                row.play((2, 3))
                raise KeyError("on")
        self.same([row.text, row.played], ["ooxo", ((0, 0),)])
        with self.assertRaises(BadRow):
            with row.trial():
                with row.trial():
                    row += "x"
                    row += "q"
        self.same([row.text, row.played], ["ooxo", ((0, 0),)])

    def test_left_by_a_return(self):
        row = played_row()

        def leave():
            with row.trial() as same:
                same += "xx"
                return same.text

        self.same([leave(), row.text, row.played], ["ooxoxx", "ooxo", ((0, 0),)])

    def test_it_begins_with_the_block(self):
        row = played_row()
        trial = row.trial()
        row += "x"
        with trial:
            row += "x"
        self.same([row.text, row.played], ["ooxox", ()])

    def test_tried(self):
        row = played_row()
        seen = []

        def ask(same):
            seen.append(same is row)
            same.play((2, 3))
            return [same.text, same.played]

        self.same(row.tried(ask), ["ooooo", ((0, 0), (2, 3))])
        self.same([row.text, row.played, seen], ["ooxo", ((0, 0),), [True]])
        self.assertIs(row.tried(ask=lambda same: same), row)
        self.same(row.tried(lambda same: same.tried(lambda inner: inner.back())), (0, 0))
        self.same([row.text, row.played], ["ooxo", ((0, 0),)])

    def test_tried_with_an_error(self):
        row = played_row()

        def ask(same):
            same.back()
            return same.back()

        self.raises(NothingPlayed(), row.tried, ask)
        self.same([row.text, row.played], ["ooxo", ((0, 0),)])
