"""Ways to goal rows, held against moves that are told by the words."""

from rowgames.books import Book
from rowgames.errors import BadGame, BadRow, NotRight, NotWon, OtherSigns
from rowgames.games import Every, Shared, Sides, Some
from rowgames.least import least
from rowgames.machines import Machine
from rowgames.rules import Rule
from rowgames.signs import Weights
from rowgames.ways import shows_way, way
from helpers import FLIP, ODD, SHARED, XO, Case, same, values_but
from oracle import GOAL, LEFT, ABC, moves_of, rows_up_to, some_machine

BARE = Some(FLIP, ~Machine.having("xo", "x"))
MANY = Weights(("z", 0), ("x", 2), ("o", 1))
PAIR = Some(Book(MANY, Rule("xo", "zz"), Rule("o", "", right=True), Rule("x", "oz", left=True)), Machine.counting("zxo", "o", 1))
GAMES = [BARE, PAIR, Some(Book(ABC, *LEFT), GOAL), Some(Book(XO), ODD), Some(FLIP, Machine.just("xo", "", "oo", "xox"))]


def told(game, machine, row):
    """The way by the words of the document: the moves, or the error that is raised."""
    if not machine[row]:
        return NotWon(row)
    moves = []
    while not game.goal[row]:
        winning = [(move, led) for move, led in moves_of(game.books[0].rules, row) if machine[led]]
        if not winning:
            return NotRight(row, 0)
        moves.append(winning[0][0])
        row = winning[0][1]
    return moves


class TestWay(Case):
    def held(self, game, machine, row):
        wanted = told(game, machine, row)
        if isinstance(wanted, list):
            found = way(game, machine, row)
            self.same(found, wanted)
            self.assertLessEqual(len(found), game.weights(row))
            self.same(shows_way(game, row, found), True)
            self.same(shows_way(game, row, tuple(found)), True)
            return "way" if found else "goal"
        self.raises(wanted, way, game, machine, row)
        return type(wanted).__name__

    def test_right_machines(self):
        seen = []
        for game in GAMES:
            machine = least(game, 12, stands=20000)
            if machine:
                for row in rows_up_to(game.weights, 6 if len(game.weights) < 3 else 5):
                    seen.append(self.held(game, machine.machines[0], row))
        self.assertLessEqual({"way", "goal", "NotWon"}, set(seen))
        self.assertNotIn("NotRight", seen)

    def test_wrong_machines(self):
        seen = []
        for at, game in enumerate(GAMES * 3):
            machine = some_machine(game.weights.signs, 3, at)
            for row in rows_up_to(game.weights, 5 if len(game.weights) < 3 else 4):
                seen.append(self.held(game, machine, row))
        for name in ("way", "goal", "NotWon", "NotRight"):
            self.assertGreater(seen.count(name), 20)

    def test_the_first_row_on_the_way(self):
        machine = Machine.just("xo", "xxx", "oxx", "oox")
        self.raises(NotRight("oox", 0), way, BARE, machine, "xxx")
        self.raises(NotRight("oxx", 0), way, BARE, Machine.just("xo", "xxx", "oxx"), "xxx")
        self.raises(NotRight("x", 0), way, BARE, Machine.just("xo", "x"), "x")

    def test_a_goal_row_that_is_not_told(self):
        self.raises(NotWon("o"), way, BARE, Machine.none("xo"), "o")
        self.same(way(BARE, Machine.every("xo"), "o"), [])

    def test_the_list_belongs_to_the_caller(self):
        machine = Machine.every("xo")
        way(BARE, machine, "xx").clear()
        self.same(way(BARE, machine, "xx"), [(0, 0), (1, 0)])

    def test_errors_in_their_order(self):
        other = Machine.none("ox")
        for game in (SHARED, Sides(FLIP, FLIP), Every(FLIP, ODD)):
            for machine in (other, ODD):
                for row in ("q", "x", None):
                    self.raises(BadGame("kind"), way, game, machine, row)
        for signs in ("ox", "x", "xoz", "xa"):
            for row in ("q", "x", None):
                self.raises(OtherSigns("machine"), way, BARE, Machine.none(signs), row)
        for value in values_but("", "x", "xo"):
            at = 1 if same(value, "x\n") else 0
            if not isinstance(value, str) or value.strip("xo"):
                self.raises(BadRow(at), way, BARE, Machine.none("xo"), value)
        self.raises(BadRow(2), way, BARE, Machine.none("xo"), "xxq")


class TestShowsWay(Case):
    def test_one_thing_otherwise(self):
        self.same(shows_way(BARE, "xox", [(2, 0), (0, 0)]), True)
        wrong = [[(0, 0)], [(0, 0), (2, 0), (0, 0)], [(0, 0), (0, 0)], [(0, 0), (2, 1)], [(0, 0), (2, -1)],
                 [(0, 0), (-1, 0)], [(0, 0), [2, 0]], [(False, 0), (2, 0)], [(0, False), (2, 0)], [(0, 0), (2, 0, 0)],
                 [(0, 0), (2,)], [(0, 0), None], [(0, 0), (3, 0)], [(1, 0), (2, 0)], [], {(0, 0): 0, (2, 0): 0},
                 [((0, 0), (2, 0))], [("0", 0), (2, 0)], (0, 0), [(0, 0), (2, 10 ** 59)]]
        for moves in wrong:
            self.same(shows_way(BARE, "xox", moves), False)
            if isinstance(moves, list):
                self.same(shows_way(BARE, "xox", tuple(moves)), False)

    def test_any_values(self):
        for value in values_but():
            self.same(shows_way(BARE, "x", value), False)
            self.same(shows_way(BARE, "o", value), same(value, ()) or same(value, []))
        self.same(shows_way(Some(FLIP, ODD), "xx", ((0, 0),)), True)

    def test_a_goal_row_on_the_way(self):
        game = Some(FLIP, Machine.just("xo", "xx", "oo"))
        self.same([shows_way(game, "xx", moves) for moves in ([], [(0, 0)], [(1, 0), (0, 0)])], [True, False, True])

    def test_what_is_passed_stays(self):
        moves = [(2, 0), (0, 0)]
        shows_way(BARE, "xox", moves)
        self.same(moves, [(2, 0), (0, 0)])

    def test_errors(self):
        for game in (SHARED, Sides(FLIP, FLIP), Every(FLIP, ODD)):
            self.raises(BadGame("kind"), shows_way, game, "q", None)
        for value in values_but("", "x", "xo"):
            at = 1 if same(value, "x\n") else 0
            if not isinstance(value, str) or value.strip("xo"):
                self.raises(BadRow(at), shows_way, BARE, value, None)
