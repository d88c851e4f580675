"""Games: what they are made of, how they are read, and how they are turned and renamed."""

import itertools

from rowgames.books import Book
from rowgames.errors import BadGame, BadSeat, BadSigns, OtherSigns, TooMany
from rowgames.games import Alone, Duel, Every, Game, Shared, Sides, Some
from rowgames.machines import Machine
from rowgames.rules import Rule
from rowgames.signs import Weights
from helpers import FLIP, ODD, XO, Case, odd_values, values_but

LONG = Book(XO, Rule("xxo", "o", left=True), Rule("x", "oo", right=True))
OX = Weights(("o", 0), ("x", 1))
GAMES = [Some(LONG, ODD), Every(LONG, ODD), Shared(LONG), Shared(LONG, last=False), Sides(LONG, FLIP),
         Sides(FLIP, LONG, last=False)]


class TestMaking(Case):
    def test_classes(self):
        kinds = {Some: Alone, Every: Alone, Shared: Duel, Sides: Duel}
        for kind, base in kinds.items():
            self.assertEqual(kind.__bases__, (base,))
        self.assertEqual([Alone.__bases__, Duel.__bases__], [(Game,), (Game,)])

    def test_each_kind_has_its_methods_itself(self):
        for kind in (Game, Some, Every, Shared, Sides):
            for name in ("book_of", "judge", "reads", "__neg__", "renamed", "__eq__"):
                self.assertIn(name, vars(kind))

    def test_attributes(self):
        for game in GAMES:
            self.assertLessEqual({"books", "goal", "last", "seats", "weights"}, set(vars(game)))
            self.assertIsInstance(game.books, tuple)
            self.assertEqual(game.weights, XO)
            self.same(game.longest, 3)
        self.same([game.seats for game in GAMES], [1, 1, 1, 1, 2, 2])
        self.same([game.last for game in GAMES], [None, None, True, False, True, False])
        for game in GAMES[:2]:
            self.assertIs(game.goal, ODD)
        for game in GAMES[2:]:
            self.assertIs(game.goal, None)
        for game in GAMES[:4]:
            self.assertIs(game.books[0], LONG)
            self.same(len(game.books), 1)
        self.assertIs(GAMES[4].books[0], LONG)
        self.assertIs(GAMES[4].books[1], FLIP)

    def test_longest(self):
        self.assertIsInstance(vars(Game)["longest"], property)
        self.same([Shared(FLIP).longest, Shared(Book(XO)).longest, Some(FLIP, ODD).longest], [1, 0, 1])
        self.same([Sides(FLIP, LONG).longest, Sides(LONG, FLIP).longest, Sides(Book(XO), FLIP).longest], [3, 3, 1])

    def test_by_names(self):
        self.assertEqual(Some(goal=ODD, book=FLIP), Some(FLIP, ODD))
        self.assertEqual(Every(goal=ODD, book=FLIP), Every(FLIP, ODD))
        self.assertEqual(Shared(last=False, book=FLIP), Shared(FLIP, last=False))
        self.assertEqual(Sides(right=LONG, left=FLIP), Sides(FLIP, LONG))
        with self.assertRaises(TypeError):
            Shared(FLIP, False)
        with self.assertRaises(TypeError):
            Sides(FLIP, FLIP, False)

    def test_errors_of_games_alone(self):
        for kind in (Some, Every):
            for value in odd_values():
                if not isinstance(value, Book):
                    self.raises(BadGame("book"), kind, value, ODD)
                    self.raises(BadGame("book"), kind, value, None)
                if not isinstance(value, Machine):
                    self.raises(BadGame("goal"), kind, FLIP, value)
            for signs in ("ox", "x", "xoa", "xa"):
                self.raises(OtherSigns("goal"), kind, FLIP, Machine.none(signs))

    def test_errors_of_shared(self):
        for value in odd_values():
            if not isinstance(value, Book):
                self.raises(BadGame("book"), Shared, value)
                self.raises(BadGame("book"), Shared, value, last=None)
            if not isinstance(value, bool):
                self.raises(BadGame("last"), Shared, FLIP, last=value)

    def test_errors_of_sides(self):
        for value in odd_values():
            if not isinstance(value, Book):
                self.raises(BadGame("left"), Sides, value, None, last=None)
                self.raises(BadGame("left"), Sides, value, FLIP)
                self.raises(BadGame("right"), Sides, FLIP, value, last=None)
                self.raises(BadGame("right"), Sides, FLIP, value)
            if not isinstance(value, bool):
                self.raises(BadGame("last"), Sides, FLIP, FLIP, last=value)
        for weights in (OX, Weights(("x", 2), ("o", 0)), Weights(("x", 1)), Weights(("x", 1), ("p", 0))):
            self.raises(OtherSigns("right"), Sides, FLIP, Book(weights), last=None)
            self.raises(OtherSigns("right"), Sides, FLIP, Book(weights))


class TestSeats(Case):
    def test_books_and_judges(self):
        for game in GAMES[:4]:
            self.assertIs(game.book_of(0), LONG)
            self.same(game.judge(0), 0)
        self.assertIs(GAMES[4].book_of(0), LONG)
        self.assertIs(GAMES[4].book_of(seat=1), FLIP)
        self.same([GAMES[4].judge(0), GAMES[4].judge(seat=1)], [1, 0])

    def test_wrong_seats(self):
        for game in GAMES:
            for value in values_but(0, 1) + [-1, 2, "0", (0,)]:
                for ask in (game.book_of, game.judge):
                    self.assertIs(self.raises(BadSeat(value), ask, value).seat, value)
            if game.seats == 1:
                self.raises(BadSeat(1), game.book_of, 1)
                self.raises(BadSeat(1), game.judge, 1)


class TestReads(Case):
    def test_each_kind(self):
        some, every, wins, loses, sides, misere = GAMES
        for length in range(5):
            for answers in map(list, itertools.product((True, False), repeat=length)):
                for is_goal in (True, False):
                    kept = list(answers)
                    self.same(some.reads(is_goal, answers), is_goal or True in answers)
                    self.same(every.reads(is_goal, answers), False not in answers if answers else is_goal)
                    for duel in (wins, sides):
                        self.same(duel.reads(is_goal, answers), False in answers)
                    for duel in (loses, misere):
                        self.same(duel.reads(is_goal, answers), False in answers or answers == [])
                    self.same(answers, kept)
        self.same(some.reads(answers=[], is_goal=True), True)


class TestChanging(Case):
    def test_turned(self):
        ends = Machine("xo", ((1, 0), (1, 0)), (False, True))
        turned_book = Book(XO, Rule("oxx", "o", right=True), Rule("x", "oo", left=True))
        self.assertEqual(-Some(LONG, ends), Some(turned_book, ends.turned()))
        self.assertEqual(-Every(LONG, ends), Every(turned_book, ends.turned()))
        self.assertEqual(-Shared(LONG, last=False), Shared(turned_book, last=False))
        self.assertEqual(-Shared(LONG), Shared(turned_book))
        self.assertEqual(-Sides(LONG, FLIP, last=False), Sides(turned_book, FLIP, last=False))
        self.assertEqual(-Sides(FLIP, LONG), Sides(FLIP, turned_book))
        for game in GAMES:
            self.assertEqual(- -game, game)
            self.assertIs(type(-game), type(game))

    def test_turned_too_many(self):
        goal = Machine("xo", [[k + 1, k + 1] for k in range(6)] + [[7, 8], [7, 7], [8, 8]], [False] * 7 + [True, False])
        for kind in (Some, Every):
            self.raises(TooMany("states", 64), lambda: -kind(FLIP, goal))

    def test_renamed(self):
        names = {"x": "o", "o": "b"}
        book = Book(Weights(("o", 1), ("b", 0)), Rule("oob", "b", left=True), Rule("o", "bb", right=True))
        flip = Book(Weights(("o", 1), ("b", 0)), Rule("o", "b"))
        odd = Machine("ob", ODD.steps, ODD.told)
        expected = [Some(book, odd), Every(book, odd), Shared(book), Shared(book, last=False), Sides(book, flip),
                    Sides(flip, book, last=False)]
        for game, wanted in zip(GAMES, expected):
            self.assertEqual(game.renamed(names), wanted)
            self.assertEqual(game.renamed(names=names).renamed({"o": "x", "b": "o"}), game)
            for wrong in odd_values() + [{"x": "a"}, {"x": "a", "o": "a"}, {"x": "a", "o": "A"}]:
                self.raises(BadSigns("names"), game.renamed, wrong)

    def test_equal(self):
        again = [Some(LONG, ODD & ~Machine.none("xo")), Every(LONG, ODD | ODD), Shared(LONG), Shared(LONG, last=False),
                 Sides(LONG, FLIP), Sides(FLIP, LONG, last=False)]
        for at, game in enumerate(GAMES):
            for place, other in enumerate(again):
                self.same(game == other, at == place)
                self.same(game != other, at != place)
            for value in odd_values():
                self.same(game == value, False)
        self.same(Some(LONG, ODD) == Some(LONG, ~ODD), False)
        self.same(Every(LONG, ODD) == Every(LONG, ~ODD), False)
        self.same([Some(LONG, ODD) == Some(FLIP, ODD), Every(LONG, ODD) == Every(FLIP, ODD)], [False, False])
        self.same([Shared(LONG) == Shared(FLIP), Sides(LONG, FLIP) == Sides(FLIP, LONG)], [False, False])
        self.same([Sides(LONG, LONG) == Sides(LONG, FLIP), Sides(LONG, FLIP) == Sides(LONG, FLIP, last=False)],
                  [False, False])
        self.same(Sides(LONG, LONG) == Shared(LONG), False)
