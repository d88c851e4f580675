"""Plain play, held against plays that are gone through to their ends."""

import itertools

from rowgames.books import Book
from rowgames.errors import BadRow, BadSeat, TooMany
from rowgames.games import Every, Shared, Sides, Some
from rowgames.machines import Machine
from rowgames.plain import is_won, met
from rowgames.rules import Rule
from helpers import FLIP, ODD, SHARED, Case, odd_values, values_but
from oracle import ABC, GOAL, LEFT, RIGHT, all_games, moves_of, positions_of

ROWS = ["".join(row) for length in range(5) for row in itertools.product("bac", repeat=length)]
ROWS = ROWS[::3] + ["babab", "aabbc", "cabcab", "bbbb", "abcabc"]


def plays_from(rules, row):
    """All plays of one player, each a list of rows up to a finished one."""
    behind = [led for _, led in moves_of(rules, row)]
    if not behind:
        return [[row]]
    return [[row] + play for led in behind for play in plays_from(rules, led)]


def ends_of(books, row, seat, memo):
    """Whether the player who is to move wins; memo["stuck"] tells whether who cannot move does."""
    if (row, seat) not in memo:
        led = [one for _, one in moves_of(books[seat], row)]
        other = len(books) - 1 - seat
        memo[row, seat] = any([not ends_of(books, one, other, memo) for one in led]) if led else memo["stuck"]
    return memo[row, seat]


def told_games():
    """Each kind of game, both endings of a duel, with the rules of its seats."""
    return list(zip(all_games(), [[LEFT], [LEFT], [LEFT], [RIGHT], [LEFT, RIGHT], [RIGHT, LEFT]]))


def sorted_positions(found):
    return sorted(found, key=lambda position: (ABC.place(position[0]), position[1]))


class TestMet(Case):
    def test_against_all_plays(self):
        for game, books in told_games():
            for row in ROWS:
                for seat in range(game.seats):
                    self.same(met(game, row, seat), sorted_positions(positions_of(game, row, seat)))

    def test_the_order_of_rows_and_seats(self):
        self.same(met(SHARED, "xx"), [("oo", 0), ("xo", 0), ("ox", 0), ("xx", 0)])
        self.same(met(Sides(FLIP, FLIP), "xx", 1), [("oo", 1), ("xo", 0), ("ox", 0), ("xx", 1)])
        both = Sides(Book(ABC, Rule("b", "a"), Rule("ba", "a")), Book(ABC, Rule("a", ""), Rule("b", "")))
        found = met(both, "bba", 0)
        self.assertIn(("a", 0), found)
        self.assertIn(("a", 1), found)
        self.same(found, sorted_positions(found))
        shorter = Shared(Book(ABC, Rule("b", "cccc"), Rule("ba", "a"), Rule("bab", "aca")))
        self.same(met(shorter, "bab"), sorted_positions(met(shorter, "bab")))

    def test_by_names(self):
        self.same(met(row="x", game=SHARED, seat=0, most=2), [("o", 0), ("x", 0)])
        with self.assertRaises(TypeError):
            met(SHARED, "x", 0, 2000)

    def test_the_list_belongs_to_the_caller(self):
        found = met(SHARED, "xx")
        found.clear()
        self.same(met(SHARED, "xx"), [("oo", 0), ("xo", 0), ("ox", 0), ("xx", 0)])

    def test_goal_rows_do_not_end_a_play(self):
        self.same(met(Some(FLIP, Machine.every("xo")), "xx"), [("oo", 0), ("xo", 0), ("ox", 0), ("xx", 0)])
        self.same(met(Every(FLIP, Machine.every("xo")), "x"), [("o", 0), ("x", 0)])


class TestIsWon(Case):
    def test_games_alone(self):
        (some, _), (every, _) = told_games()[:2]
        for row in ROWS:
            plays = plays_from(LEFT, row)
            self.same(is_won(some, row), any([GOAL[one] for play in plays for one in play]))
            self.same(is_won(every, row), all([GOAL[play[-1]] for play in plays]))

    def test_duels(self):
        for game, books in told_games()[2:]:
            memo = {"stuck": not game.last}
            answers = []
            for row in ROWS:
                for seat in range(game.seats):
                    answers.append(is_won(game, row, seat))
                    self.same(answers[-1], ends_of(books, row, seat, memo))
            self.assertIn(True, answers)
            self.assertIn(False, answers)

    def test_goal_rows_on_the_way(self):
        on_the_way = Machine.just("xo", "xo")
        self.same([is_won(Some(FLIP, on_the_way), "xx"), is_won(Every(FLIP, on_the_way), "xx")], [True, False])
        self.same([is_won(Some(FLIP, on_the_way), "xo"), is_won(Every(FLIP, on_the_way), "xo")], [True, False])
        end = Machine.just("xo", "oo")
        self.same([is_won(Every(FLIP, end), "xx"), is_won(Some(FLIP, end), "x")], [True, False])

    def test_by_names(self):
        self.same(is_won(row="x", game=SHARED, seat=0, most=2), True)
        with self.assertRaises(TypeError):
            is_won(SHARED, "x", 0, 2000)

    def test_longer_rows(self):
        self.same(is_won(SHARED, "o" * 30, most=1), False)
        self.same([is_won(SHARED, "xoo" * 10), is_won(SHARED, "xo" * 10 + "x", most=2048)], [False, True])


class TestErrors(Case):
    def test_the_seat_comes_first(self):
        for game, _ in told_games():
            for ask in (met, is_won):
                for value in values_but(0, 1) + [-1, 2]:
                    for row in ("bab", "q", None):
                        self.assertIs(self.raises(BadSeat(value), ask, game, row, value, most=1).seat, value)
                if game.seats == 1:
                    self.raises(BadSeat(1), ask, game, "q", 1)

    def test_then_the_row(self):
        for game, _ in told_games():
            for ask in (met, is_won):
                for value in odd_values():
                    if not isinstance(value, str):
                        self.raises(BadRow(0), ask, game, value, most=1)
                self.raises(BadRow(2), ask, game, "bbq", most=1)

    def test_too_many(self):
        for game, books in told_games():
            for row in ("babab", "cabcab"):
                for seat in range(game.seats):
                    many = len(positions_of(game, row, seat))
                    self.assertGreater(many, 5)
                    for ask in (met, is_won):
                        for most in (1, 2, many - 1):
                            self.raises(TooMany("rows", most), ask, game, row, seat, most=most)
                    self.same(len(met(game, row, seat, most=many)), many)
                    self.same(is_won(game, row, seat, most=many), is_won(game, row, seat))

    def test_the_bound_that_is_not_told(self):
        self.same(len(met(SHARED, "x" * 10)), 1024)
        for ask in (met, is_won):
            self.raises(TooMany("rows", 2000), ask, SHARED, "x" * 11)
        self.same(len(met(SHARED, "x" * 11, most=2048)), 2048)
        self.same(is_won(SHARED, "x" * 11, most=2048), True)

    def test_one_position(self):
        self.same(met(SHARED, "", most=1), [("", 0)])
        self.same(met(Shared(Book(ABC)), "bab", most=1), [("bab", 0)])

    def test_too_many_also_where_the_row_is_a_goal_row(self):
        some = Some(FLIP, ODD)
        self.raises(TooMany("rows", 7), is_won, some, "xxx", most=7)
        self.same(is_won(some, "xxx", most=8), True)
