"""Ledgers, held against the words of the document and against plays."""

from rowgames.books import Book
from rowgames.errors import BadRow, BadSeat, TooMany
from rowgames.games import Every, Shared, Sides, Some
from rowgames.ledgers import ledger_of, shows_won
from rowgames.machines import Machine
from rowgames.plain import is_won, met
from helpers import FLIP, ODD, SHARED, XO, Case, odd_values, values_but
from oracle import all_games, moves_of, other_seat, positions_of, small_games, wins

ROWS = ["", "c", "a", "b", "ab", "cab", "bab", "abab", "bcab", "aab", "abcab"]


def rows_for(game):
    """Rows with the signs of a game, with moves by most rules."""
    if game.weights.signs == "bac":
        return ROWS
    one = game.weights.signs
    return ["", one[0], one[-1] * 2, one[:2] * 2, one[0] * 3 + one[-1]]


def is_right(game, ledger, position):
    """Whether an entry is right by one step, by the words of each case."""
    row, seat = position
    entry = ledger[position]
    moves = moves_of(game.books[seat].rules, row)
    other = other_seat(game, seat)
    led = {move: ledger.get((behind, other), (None, None))[0] for move, behind in moves}
    if isinstance(game, Some):
        if entry == (True, None):
            return game.goal[row]
        if entry == (False, None):
            return not game.goal[row] and all(answer is False for answer in led.values())
        return entry[0] and led.get(entry[1]) is True
    if isinstance(game, Every):
        if entry == (False, None):
            return not moves and not game.goal[row]
        if entry == (True, None):
            return game.goal[row] if not moves else all(answer is True for answer in led.values())
        return not entry[0] and led.get(entry[1]) is False
    if entry == (True, None):
        return not game.last and not moves
    if entry == (False, None):
        return all(answer is True for answer in led.values()) and (bool(moves) or game.last)
    return entry[0] and led.get(entry[1]) is False


def wanted_ledger(game, row, seat):
    """The ledger that ledger_of is to return: the first entry that is right, None ahead of moves."""
    memo = {}
    found = {position: (wins(game, *position, memo), None) for position in positions_of(game, row, seat)}
    for position in found:
        won = found[position][0]
        moves = [move for move, _ in moves_of(game.books[position[1]].rules, position[0])]
        right = [move for move in [None] + moves if is_right(game, {**found, position: (won, move)}, position)]
        found[position] = (won, right[0])
    return found


class TestLedgerOf(Case):
    def test_against_the_words(self):
        entries = []
        for game in all_games() + small_games():
            for row in rows_for(game):
                for seat in range(game.seats):
                    found = ledger_of(game, row, seat)
                    self.same(found, wanted_ledger(game, row, seat))
                    self.assertEqual(set(found), set(met(game, row, seat)))
                    entries += found.values()
        for kind in [(True, None), (False, None)]:
            self.assertIn(kind, entries)
        self.assertTrue([move for won, move in entries if won and move] and [1 for won, move in entries if not won and move])

    def test_each_kind(self):
        self.same(ledger_of(SHARED, "xx"), {("oo", 0): (False, None), ("xo", 0): (True, (0, 0)),
                                            ("ox", 0): (True, (1, 0)), ("xx", 0): (False, None)})
        lose = Shared(FLIP, last=False)
        self.same(ledger_of(lose, "x"), {("o", 0): (True, None), ("x", 0): (False, None)})
        some = Some(FLIP, ODD)
        self.same(ledger_of(some, "xx"), {("oo", 0): (False, None), ("xo", 0): (True, None),
                                          ("ox", 0): (True, None), ("xx", 0): (True, (0, 0))})
        every = Every(FLIP, Machine.having("xo", "x"))
        self.same(ledger_of(every, "x"), {("o", 0): (False, None), ("x", 0): (False, (0, 0))})
        self.same(ledger_of(Every(FLIP, ~ODD), "x"), {("o", 0): (True, None), ("x", 0): (True, None)})
        sides = Sides(FLIP, Book(XO))
        self.same(ledger_of(sides, "x", 0), {("o", 1): (False, None), ("x", 0): (True, (0, 0))})
        self.same(ledger_of(sides, "x", 1), {("x", 1): (False, None)})

    def test_by_names(self):
        self.same(ledger_of(row="x", game=SHARED, seat=0, most=2), ledger_of(SHARED, "x"))
        with self.assertRaises(TypeError):
            ledger_of(SHARED, "x", 0, 2000)

    def test_the_dict_belongs_to_the_caller(self):
        found = ledger_of(SHARED, "x")
        found.clear()
        self.same(ledger_of(SHARED, "x"), {("o", 0): (False, None), ("x", 0): (True, (0, 0))})

    def test_errors_in_order(self):
        for game in all_games():
            for value in values_but(0, 1) + [-1, 2]:
                self.assertIs(self.raises(BadSeat(value), ledger_of, game, "q", value, most=1).seat, value)
            self.raises(BadRow(1), ledger_of, game, "bq", most=1)
            for value in odd_values():
                if not isinstance(value, str):
                    self.raises(BadRow(0), ledger_of, game, value, most=1)
            many = len(positions_of(game, "abab"))
            self.raises(TooMany("rows", many - 1), ledger_of, game, "abab", most=many - 1)
            self.same(len(ledger_of(game, "abab", most=many)), many)
        self.raises(TooMany("rows", 2000), ledger_of, SHARED, "x" * 11)


class TestShowsWon(Case):
    def shows(self, game, row, seat, won, ledger):
        found = shows_won(game, row, seat, won, ledger)
        self.assertIsInstance(found, bool)
        return found

    def test_what_ledger_of_returns(self):
        for game in all_games() + small_games():
            for row in rows_for(game):
                for seat in range(game.seats):
                    ledger = ledger_of(game, row, seat)
                    kept = dict(ledger)
                    won = is_won(game, row, seat)
                    self.same(self.shows(game, row, seat, won, ledger), True)
                    self.same(self.shows(game, row, seat, not won, ledger), False)
                    self.same(ledger, kept)

    def test_each_other_entry(self):
        right = {True: 0, False: 0}
        for game in all_games():
            for seat in range(game.seats):
                ledger = ledger_of(game, "bcab", seat)
                won = ledger["bcab", seat][0]
                for position in ledger:
                    moves = [move for move, _ in moves_of(game.books[position[1]].rules, position[0])]
                    for entry in [(told, move) for told in (True, False) for move in [None, (0, 4), (9, 0)] + moves]:
                        other = {**ledger, position: entry}
                        wanted = all(is_right(game, other, one) for one in other) and other["bcab", seat][0] == won
                        self.same(self.shows(game, "bcab", seat, won, other), wanted)
                        right[wanted] += 1
        self.assertGreater(min(right.values()), 100)

    def test_a_position_left_out(self):
        for game in all_games():
            for seat in range(game.seats):
                ledger = ledger_of(game, "abab", seat)
                won = ledger["abab", seat][0]
                for position in ledger:
                    other = {one: entry for one, entry in ledger.items() if one != position}
                    wanted = position != ("abab", seat) and all(is_right(game, other, one) for one in other)
                    self.same(self.shows(game, "abab", seat, won, other), wanted)

    def test_positions_beyond(self):
        ledger = ledger_of(SHARED, "ox")
        self.same(self.shows(SHARED, "ox", 0, True, {**ledger, **ledger_of(SHARED, "xxx")}), True)
        self.same(self.shows(SHARED, "ox", 0, True, {**ledger, ("", 0): (True, None)}), False)
        self.same(self.shows(SHARED, "ox", 0, True, {**ledger, ("xxx", 0): (True, (0, 0))}), False)
        self.same(self.shows(SHARED, "xo", 0, True, ledger), False)
        self.same(self.shows(SHARED, "oo", 0, False, ledger), True)
        self.same(self.shows(SHARED, "ox", 0, True, {}), False)
        both = {**ledger_of(Sides(FLIP, FLIP), "x", 0), **ledger_of(Sides(FLIP, FLIP), "x", 1)}
        self.same([self.shows(Sides(FLIP, FLIP), "x", seat, True, both) for seat in (0, 1)], [True, True])

    def test_entries_of_other_kinds(self):
        ledger = ledger_of(SHARED, "ox")
        entries = [[False, None], (0, None), (False,), (False, None, None), (), None, False, "", (None, None), {},
                   (False, False), (False, []), ("", None)]
        for entry in entries + values_but():
            self.same(self.shows(SHARED, "ox", 0, True, {**ledger, ("oo", 0): entry}), False)
        moves = [[1, 0], (1,), (1, 0, 0), (True, 0), (1, False), (1, "0"), ("1", 0), (1, None), (-1, 0), (0, 0), (1, 1),
                 (1, -1), (2, 0), (10 ** 59, 10 ** 59), ()]
        for move in moves + values_but(None):
            self.same(self.shows(SHARED, "ox", 0, True, {**ledger, ("ox", 0): (True, move)}), False)
        self.same(self.shows(SHARED, "ox", 0, True, {**ledger, ("ox", 0): (True, None)}), False)
        self.same(self.shows(SHARED, "ox", 0, True, {**ledger, ("ox", 0): (1, (1, 0))}), False)

    def test_keys_that_are_no_positions(self):
        ledger = ledger_of(SHARED, "ox")
        keys = ["ox", ("ox",), ("ox", 0, 0), ("ox", False), ("o", True), ("ox", 1), ("ox", -1), ("ox", "0"), ("oz", 0),
                (0, "ox"), (None, 0), None, 0, (), True, ("OX", 0), (("o",), 0)]
        for key in keys:
            other = {one: entry for one, entry in ledger.items() if one != key}
            self.same(self.shows(SHARED, "oo", 0, False, {**other, key: (False, None)}), False)
        self.same(self.shows(SHARED, "oo", 0, False, {("oo", 0): (False, None)}), True)
        self.same(self.shows(SHARED, "oo", 0, False, {("oo", False): (False, None)}), False)
        sides = Sides(FLIP, FLIP)
        self.same(self.shows(sides, "oo", 0, False, {("oo", 0): (False, None), ("o", 1): (False, None)}), True)
        self.same(self.shows(sides, "oo", 0, False, {("oo", 0): (False, None), ("o", 2): (False, None)}), False)
        self.same(self.shows(sides, "oo", 0, False, {("oo", 0): (False, None), ("o", True): (False, None)}), False)

    def test_any_values(self):
        ledger = ledger_of(SHARED, "ox")
        for value in values_but():
            self.same(self.shows(SHARED, "ox", 0, True, value), False)
        for value in values_but(True) + [1]:
            self.same(self.shows(SHARED, "ox", 0, value, ledger), False)
        for value in values_but(False) + [0]:
            self.same(self.shows(SHARED, "oo", 0, value, ledger), False)

    def test_errors_in_order(self):
        for game in all_games():
            for value in values_but(0, 1) + [-1, 2]:
                self.assertIs(self.raises(BadSeat(value), shows_won, game, "q", value, None, None).seat, value)
            self.raises(BadRow(1), shows_won, game, "bq", 0, None, None)
            for value in odd_values():
                if not isinstance(value, str):
                    self.raises(BadRow(0), shows_won, game, value, 0, True, {})

    def test_by_names(self):
        self.same(shows_won(ledger={("oo", 0): (False, None)}, won=False, seat=0, row="oo", game=SHARED), True)
