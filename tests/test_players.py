"""Players and contests, held against moves and plays that are told by the words."""

import itertools
import random
import sys

from rowgames.books import Book
from rowgames.errors import BadGame, BadMove, BadNumber, BadRow, BadSeat, NoMove, OtherSigns
from rowgames.games import Every, Shared, Sides, Some
from rowgames.machines import Machine
from rowgames.players import Leftmost, Mover, Numbered, Perfect, Player, Seer, contest, winner
from rowgames.rules import Rule
from rowgames.signs import Weights
from helpers import EVERY, FLIP, ODD, SHARED, XO, Case, defaults_of, same, values_but
from oracle import NO_RULES, all_games, machines_of, moves_of, other_seat, rows_up_to, small_games, wins
from test_tables import SOLVED

NONE = Machine.none("xo")
V = Weights(("x", 2), ("o", 1), ("z", 0))
LEFT = Book(V, Rule("x", "o"), Rule("x", "z"), Rule("ox", "zo", left=True))
RIGHT = Book(V, Rule("o", "z"), Rule("x", "zo"), Rule("oz", "", right=True))


def winning_of(game, machines, row, seat):
    """The winning moves, by point [15]."""
    wanted = isinstance(game, (Some, Every))
    return [move for move, led in moves_of(game.books[seat].rules, row)
            if machines[other_seat(game, seat)][led] == wanted]


def some_pairs():
    """Games with their solutions, and with machines that are wrong."""
    return [(game, machines) for game, machines in SOLVED] + [
        (game, machines_of(game, 3, at)) for at, game in enumerate(small_games() + all_games())]


class Told(Player):
    """A player who makes the moves that it is told, any values, and keeps what it was asked."""

    def __init__(self, game, *moves):
        super().__init__(game)
        self.moves = list(moves)
        self.asked = []

    def chosen(self, row, seat=0):
        self.asked.append((row, seat))
        return self.moves.pop(0)


class Asked(Player):
    """A player who asks another one, and keeps what it was asked."""

    def __init__(self, player):
        super().__init__(player.game)
        self.player = player
        self.asked = []

    def chosen(self, row, seat=0):
        self.asked.append((row, seat))
        return self.player.chosen(row, seat)


def steps_of(ask, *told):
    """How many lines of the program a call goes through: no clock is needed to see whether they are too many."""
    many = 0

    def count(frame, event, _):
        nonlocal many
        many += event == "line"
        return count

    before = sys.gettrace()
    sys.settrace(count)
    try:
        ask(*told)
    finally:
        sys.settrace(before)
    return many


class TestSeer(Case):
    def test_winning_moves(self):
        kinds = set()
        for game, machines in some_pairs():
            for kind in (Seer, Perfect):
                seer = kind(game, *machines)
                for row in rows_up_to(game.weights, 5 if len(game.weights) < 3 else 3):
                    for seat in range(game.seats):
                        wanted = winning_of(game, machines, row, seat)
                        self.same(list(seer.all_winning(row, seat)), wanted)
                        self.same(list(seer.all_winning(seat=seat, row=row)), wanted)
                        self.same(seer.winning(row, seat), wanted[0] if wanted else None)
                        kinds.add((type(game), seat, bool(wanted)))
        self.same(len(kinds), 10)

    def test_the_seat_that_is_not_told(self):
        sides = Sides(LEFT, RIGHT)
        machines = machines_of(sides)
        seer = Seer(sides, *machines)
        self.same(seer.winning("xox"), (winning_of(sides, machines, "xox", 0) or [None])[0])
        self.same(list(seer.all_winning("xox")), winning_of(sides, machines, "xox", 0))

    def test_all_winning_is_a_generator(self):
        moves = Seer(SHARED, ODD).all_winning("xxx")
        self.same([next(moves), next(moves), next(moves), next(moves, None)], [(0, 0), (1, 0), (2, 0), None])
        self.assertIs(iter(moves), moves)

    def test_attributes(self):
        seer = Seer(SHARED, ODD)
        self.assertIs(seer.game, SHARED)
        self.assertIsInstance(seer.machines, tuple)
        self.assertIs(seer.machines[0], ODD)
        self.assertIs(Player(SHARED).game, SHARED)
        self.same(Seer(Sides(FLIP, FLIP), ODD, NONE).machines, (ODD, NONE))

    def test_errors_of_rows_and_seats(self):
        for kind in (Seer, Perfect):
            seer, two = kind(SHARED, ODD), kind(Sides(FLIP, FLIP), ODD, ODD)
            for ask in (seer.winning, lambda *told: list(seer.all_winning(*told))):
                for value in values_but("", "x", "xo"):
                    at = 1 if same(value, "x\n") else 0
                    if not isinstance(value, str) or value.strip("xo"):
                        self.raises(BadRow(at), ask, value, 7)
                        self.raises(BadRow(at), ask, value)
                for value in values_but(0):
                    found = self.error(ask, "x", value)
                    self.assertIs(type(found), BadSeat)
                    self.assertIs(found.seat, value)
                self.raises(BadRow(2), ask, "xxq", None)
            for value in values_but(0, 1):
                self.assertIs(self.error(two.winning, "x", value).seat, value)

    def test_errors_of_machines(self):
        sides = Sides(FLIP, FLIP)
        for kind in (Seer, Perfect):
            for value in values_but():
                if not isinstance(value, Machine):
                    self.raises(BadGame("machines"), kind, SHARED, value)
                    self.raises(BadGame("machines"), kind, sides, ODD, value)
            for machines in ([], [ODD] * 2, [Machine.none("ox")] * 2):
                self.raises(BadGame("machines"), kind, SHARED, *machines)
            self.raises(BadGame("machines"), kind, sides, ODD)
            self.raises(OtherSigns("machines"), kind, SHARED, Machine.none("ox"))
            self.raises(OtherSigns("machines"), kind, sides, ODD, Machine.none("xoz"))


class TestLongRows(Case):
    ONE, TWO, THREE = Rule("x", "o"), Rule("xx", "o"), Rule("xxx", "oo")

    def test_rows_without_a_winning_move(self):
        row = "x" * 1000
        some = Some(Book(XO, self.ONE), NONE)
        sides = Sides(Book(XO, self.ONE, self.TWO, self.THREE), Book(XO, self.ONE))
        for game, machines in ((Shared(Book(XO, self.ONE)), [EVERY]), (some, [NONE]), (sides, [EVERY, EVERY])):
            for kind in (Seer, Perfect):
                seer = kind(game, *machines)
                self.same(seer.winning(row), None)
                self.same(list(seer.all_winning(row)), [])
            self.same(seer.chosen(row), (0, 0))

    def test_rows_with_winning_moves(self):
        row = "x" * 1000
        sides = Sides(Book(XO, self.ONE, self.TWO, self.THREE), Book(XO, self.ONE))
        moves = [(place, index) for place in range(1000) for index in range(3) if place + index < 1000]
        self.same(list(Seer(sides, NONE, NONE).all_winning(row)), moves)
        some = Some(Book(XO, self.ONE), NONE)
        having = Machine.having("xo", "o")
        self.same([Seer(some, having).winning(row), list(Seer(some, ~having).all_winning(row))], [(0, 0), []])
        ending = Machine("xo", [(0, 1), (0, 1)], [False, True])
        self.same([Seer(some, ending).winning(row), list(Seer(some, ending).all_winning(row))], [(999, 0), [(999, 0)]])

    def test_moves_of_rows_of_all_lengths(self):
        chance = random.Random(20)
        ways = set()
        for at, game in enumerate(small_games() + all_games()):
            for states in (1, 2, 3, 5, 9, 64):
                machines = machines_of(game, states, at)
                seers = [Seer(game, *machines), Perfect(game, *machines)]
                for length in (4, 9, 17, 40, 150):
                    row = "".join(chance.choices(game.weights.signs, k=length))
                    for seat, seer in itertools.product(range(game.seats), seers):
                        wanted = winning_of(game, machines, row, seat)
                        self.same(list(seer.all_winning(row, seat)), wanted)
                        self.same(seer.winning(row, seat), wanted[0] if wanted else None)
                        many = len(game.books[seat](row))
                        ways.add((min(many, 20), states, bool(wanted)))
        self.assertGreater(len(ways), 100)

    def test_rows_with_so_many_moves(self):
        """Whatever way is taken for a few moves, and for more of them: each one is judged alike."""
        book = Book(XO, Rule("xo", ""), Rule("x", "oo"), Rule("oxx", "o"))
        for states, many in itertools.product((1, 2, 3, 4, 8, 20), range(20)):
            for game in (Some(book, ODD), Shared(book), Sides(book, NO_RULES)):
                machines = machines_of(game, states, many)
                for row in ("oo" + "xo" * many, "x" * many, "oxx" * many + "o"):
                    wanted = winning_of(game, machines, row, 0)
                    self.same(list(Seer(game, *machines).all_winning(row)), wanted)
                    self.same(Seer(game, *machines).winning(row), wanted[0] if wanted else None)

    def test_few_steps(self):
        """A row that is twice as long takes about twice as many steps, not four times as many."""
        sides = Sides(Book(XO, self.ONE, self.TWO, self.THREE), Book(XO, self.ONE))
        for game, machine in ((Shared(FLIP), EVERY), (Some(FLIP, NONE), NONE), (Every(FLIP, ODD), ODD), (sides, EVERY)):
            seer = Perfect(game, *[machine] * game.seats)
            for ask in (seer.winning, lambda row: list(seer.all_winning(row)), seer.chosen):
                self.assertLess(steps_of(ask, "x" * 1000), 3 * steps_of(ask, "x" * 500))


class TestMovers(Case):
    def test_moves(self):
        for game in small_games() + all_games():
            leftmost, perfect = Leftmost(game), Perfect(game, *machines_of(game))
            numbers = (3, 10 ** 59, 1, 0, 7)
            numbered = Numbered(game, *numbers)
            used = 0
            for row in rows_up_to(game.weights, 4 if len(game.weights) < 3 else 3):
                for seat in range(game.seats):
                    moves = [move for move, _ in moves_of(game.books[seat].rules, row)]
                    for ask in ("chosen", "__call__"):
                        if not moves:
                            for mover in (leftmost, perfect, numbered):
                                self.raises(NoMove(row), getattr(mover, ask), row, seat)
                            continue
                        self.same(getattr(leftmost, ask)(row, seat), moves[0])
                        wanted = (winning_of(game, perfect.machines, row, seat) + moves)[0]
                        self.same(getattr(perfect, ask)(row=row, seat=seat), wanted)
                        self.same(numbered.at, used)
                        self.same(getattr(numbered, ask)(row, seat), moves[numbers[used % 5] % len(moves)])
                        used += 1
            self.same(numbered.at, used)

    def test_the_seat_that_is_not_told(self):
        sides = Sides(LEFT, RIGHT)
        for mover in (Leftmost(sides), Numbered(sides, 0)):
            self.same([mover.chosen("xo"), mover.chosen("xo", 1), mover("xo", 0), mover("xo", 1)],
                      [(0, 0), (0, 1), (0, 0), (0, 1)])
        self.same(Perfect(SHARED, ODD)("xx", 0), (0, 0))

    def test_numbers_begin_again(self):
        numbered = Numbered(SHARED, 1, 2)
        told = []
        for _ in range(5):
            told.append((numbered.at, numbered.chosen("xxx")))
        self.same(told, [(0, (1, 0)), (1, (2, 0)), (2, (1, 0)), (3, (2, 0)), (4, (1, 0))])

    def test_numbers_are_not_used_by_what_raises(self):
        numbered = Numbered(SHARED, 1, 2)
        self.raises(NoMove("oo"), numbered.chosen, "oo")
        self.raises(BadRow(0), numbered.chosen, "q")
        self.raises(BadSeat(1), numbered.chosen, "x", 1)
        self.raises(NoMove(""), numbered, "", 0)
        self.same(numbered.at, 0)
        self.same([numbered("xx", 0), numbered.at], [(1, 0), 1])

    def test_wrong_numbers(self):
        self.raises(BadNumber("numbers"), Numbered, SHARED)
        for value in values_but(0, 1, 2, 10 ** 59):
            self.raises(BadNumber("numbers"), Numbered, SHARED, value)
            self.raises(BadNumber("numbers"), Numbered, SHARED, 0, value)
            self.raises(BadNumber("numbers"), Numbered, SHARED, value, 1)

    def test_errors_in_their_order(self):
        sides = Sides(NO_RULES, NO_RULES)
        for game in (SHARED, sides, Some(FLIP, ODD), Every(NO_RULES, ODD)):
            for mover in (Leftmost(game), Perfect(game, *machines_of(game)), Numbered(game, 1)):
                for ask in (mover.chosen, mover):
                    for value in values_but(0, 1):
                        self.assertIs(self.error(ask, "", value).seat, value)
                        self.raises(BadRow(1), ask, "xq", value)
                        if not isinstance(value, str):
                            self.raises(BadRow(0), ask, value, None)
                    self.raises(NoMove("oo"), ask, "oo", 0)

    def test_classes(self):
        self.same([Seer.__bases__, Mover.__bases__, Leftmost.__bases__, Numbered.__bases__],
                  [(Player,), (Player,), (Mover,), (Mover,)])
        self.same(set(Perfect.__bases__), {Seer, Mover})
        for kind in (Mover, Leftmost, Numbered, Perfect):
            self.assertLessEqual({"chosen", "__call__"}, set(vars(kind)))
        for kind in (Seer, Perfect):
            self.assertLessEqual({"winning", "all_winning"}, set(vars(kind)))
        for mover in (Leftmost(SHARED), Perfect(SHARED, ODD), Numbered(SHARED, 1), Mover(SHARED)):
            self.assertIs(mover.game, SHARED)
            self.assertIsInstance(mover, Mover)

    def test_the_base(self):
        mover = Mover(SHARED)
        self.raises(BadRow(0), mover.chosen, "q", None)
        self.raises(BadSeat(None), mover.chosen, "x", None)
        self.raises(NoMove("o"), mover.chosen, "o")
        self.assertRaises(NotImplementedError, mover.chosen, "x")
        self.assertRaises(NotImplementedError, mover, "x")

    def test_the_seats_that_are_not_told(self):
        for kind in (Mover, Leftmost, Numbered, Perfect):
            for ask in (kind.chosen, kind.__call__):
                self.same(defaults_of(ask), {"seat": 0})
        for kind in (Seer, Perfect):
            for ask in (kind.winning, kind.all_winning):
                self.same(defaults_of(ask), {"seat": 0})
        for ask in (contest, winner):
            self.same(defaults_of(ask), {"begins": 0})


class TestContest(Case):
    def told(self, game, row, players, begins):
        """What a contest is by the words of the document; at the end who is to move."""
        number, found = begins, []
        while True:
            seat = number if isinstance(game, Sides) else 0
            moves = dict(moves_of(game.books[seat].rules, row))
            if not moves:
                return found, number
            move = players[number].chosen(row, seat)
            row = moves[move]
            found.append((number, move, row))
            number = 1 - number

    def players(self, game):
        machines = machines_of(game)
        return [(Leftmost(game), Perfect(game, *machines)), (Numbered(game, 2, 5, 1), Leftmost(game)),
                (Perfect(game, *machines), Numbered(game, 1))]

    def test_moves_and_winners(self):
        games = [game for game in small_games() + all_games() if isinstance(game, (Shared, Sides))]
        games += [Sides(LEFT, RIGHT), Sides(RIGHT, LEFT, last=False), Shared(LEFT), Shared(RIGHT, last=False)]
        winners = []
        for game in games:
            signs = game.weights.signs
            for row in ["", signs[0], signs * 2, signs[0] * 5, signs[::-1] * 2]:
                for begins, at in itertools.product((0, 1), range(3)):
                    wanted, to_move = self.told(game, row, self.players(game)[at], begins)
                    self.same(list(contest(game, row, *self.players(game)[at], begins=begins)), wanted)
                    wins_at_end = to_move if not game.last else 1 - to_move
                    self.same(winner(game, row, *self.players(game)[at], begins=begins), wins_at_end)
                    winners.append((game.last, game.seats, begins, wins_at_end))
        self.same(len(set(winners)), 16)

    def test_player_0_begins(self):
        self.same([number for number, _, _ in contest(SHARED, "xxx", Leftmost(SHARED), Leftmost(SHARED))], [0, 1, 0])
        self.same(winner(SHARED, "xxx", Leftmost(SHARED), Leftmost(SHARED)), 0)

    def test_no_move_at_all(self):
        for last, begins in itertools.product((True, False), (0, 1)):
            game = Shared(FLIP, last=last)
            players = [Told(game), Told(game)]
            self.same(list(contest(game, "oo", *players, begins=begins)), [])
            self.same(winner(game, "oo", *players, begins=begins), 1 - begins if last else begins)
            self.same([players[0].asked, players[1].asked], [[], []])

    def test_who_is_asked_and_for_what(self):
        sides = Sides(LEFT, RIGHT)
        players = [Told(sides, (1, 0), (0, 1)), Told(sides, (0, 1))]
        self.same(list(contest(sides, "xx", *players)),
                  [(0, (1, 0), "xo"), (1, (0, 1), "zoo")])
        self.same([players[0].asked, players[1].asked], [[("xx", 0)], [("xo", 1)]])
        players = [Told(SHARED, (0, 0)), Told(SHARED, (1, 0))]
        self.same(list(contest(SHARED, "xx", *players, begins=1)), [(1, (1, 0), "xo"), (0, (0, 0), "oo")])
        self.same([players[0].asked, players[1].asked], [[("xo", 0)], [("xx", 0)]])

    def test_one_player_for_both(self):
        numbered = Numbered(SHARED, 2, 0)
        self.same(list(contest(SHARED, "xxx", numbered, numbered)),
                  [(0, (2, 0), "xxo"), (1, (0, 0), "oxo"), (0, (1, 0), "ooo")])
        self.same(numbered.at, 3)
        sides = Sides(LEFT, RIGHT)
        both = Leftmost(sides)
        self.same([move for _, move, _ in contest(sides, "xx", both, both, begins=1)],
                  [move for _, move, _ in self.told(sides, "xx", (both, both), 1)[0]])

    def test_each_move_when_it_is_asked_for(self):
        players = [Told(SHARED, (0, 0), (2, 0)), Told(SHARED, (1, 0))]
        turns = contest(SHARED, "xxx", *players)
        self.same(players[0].asked, [])
        self.same(next(turns), (0, (0, 0), "oxx"))
        self.same([len(players[0].asked), len(players[1].asked)], [1, 0])
        self.same([next(turns), next(turns), next(turns, None)], [(1, (1, 0), "oox"), (0, (2, 0), "ooo"), None])

    def test_perfect_players_win(self):
        for game, machines in SOLVED:
            if not isinstance(game, (Shared, Sides)):
                continue
            perfect, memo = Perfect(game, *machines), {}
            for row in rows_up_to(game.weights, 4):
                for other in (Leftmost(game), Numbered(game, 1, 4, 2), perfect):
                    if wins(game, row, 0, memo):
                        self.same(winner(game, row, perfect, other), 0)
                    if not wins(game, row, game.seats - 1, memo):
                        self.same(winner(game, row, perfect, other, begins=1), 0)

    def test_a_long_contest(self):
        book = Book(Weights(("x", 9), ("o", 2), ("z", 1)), Rule("x", "oooo"), Rule("o", "z"), Rule("z", ""))
        for game in (Shared(book), Sides(book, book, last=False)):
            wanted, to_move = self.told(game, "x" * 12, (Leftmost(game), Leftmost(game)), 1)
            self.same([len(wanted), to_move], [108, 1])
            players = [Asked(Leftmost(game)), Asked(Leftmost(game))]
            self.same(list(contest(game, "x" * 12, *players, begins=1)), wanted)
            seats = [0, game.seats - 1]
            rows = ["x" * 12] + [row for _, _, row in wanted]
            for number in (0, 1):
                self.same(players[number].asked, [(row, seats[number]) for row in rows[1 - number:-1:2]])
            found = list(contest(game, "x" * 112, Leftmost(game), Leftmost(game)))
            self.same([len(found), found[-1]], [1008, (1, (0, 2), "")])
            self.same(winner(game, "x" * 112, Leftmost(game), Leftmost(game)), 1 if game.last else 0)

    def test_few_steps(self):
        """A contest of twice as many moves takes about twice as many steps: each move takes no more of them."""
        told = {}
        for many in (500, 1000):
            moves = list(contest(SHARED, "x" * many, Leftmost(SHARED), Leftmost(SHARED)))
            self.same(len(moves), many)
            told[many] = steps_of(winner, SHARED, "x" * many, Leftmost(SHARED), Leftmost(SHARED))
        self.assertLess(told[1000], 3 * told[500])

    def test_errors_come_in_their_order(self):
        player = Leftmost(SHARED)
        for ask in (winner, lambda *told, **named: next(contest(*told, **named))):
            for game in (Some(FLIP, ODD), Every(FLIP, ODD)):
                self.raises(BadGame("kind"), ask, game, "q", begins=7)
                self.raises(BadGame("kind"), ask, game, "x", player, player)
            for players in ((), (player,), (player,) * 3):
                self.raises(BadRow(1), ask, SHARED, "xq", *players, begins=7)
                self.raises(BadNumber("players"), ask, SHARED, "x", *players, begins=7)
                self.raises(BadNumber("players"), ask, SHARED, "x", *players)
            for value in values_but(0, 1):
                self.assertIs(self.error(ask, SHARED, "x", player, player, begins=value).seat, value)
                if not isinstance(value, str):
                    self.raises(BadRow(0), ask, SHARED, value, player)
        turns = contest(Some(FLIP, ODD), None)
        self.raises(BadGame("kind"), next, turns)

    def test_players_that_return_no_move(self):
        for value in values_but((0, 0)):
            part = "form"
            for ask in (winner, lambda *told: list(contest(*told))):
                self.raises(BadMove(part), ask, SHARED, "xx", Told(SHARED, value), Leftmost(SHARED))
        for move, part in (((0, 1), "rule"), ((0, -1), "rule"), ((2, 0), "place"), ((-1, 0), "place"), ([0, 0], "form"),
                           ((False, 0), "form"), ((0, 0, 0), "form"), ((7, 7), "rule")):
            self.raises(BadMove(part), winner, SHARED, "xx", Told(SHARED, move), Leftmost(SHARED))
            turns = contest(SHARED, "xx", Leftmost(SHARED), Told(SHARED, move))
            self.same(next(turns), (0, (0, 0), "ox"))
            if move != (2, 0):
                self.raises(BadMove(part), next, turns)

    def test_what_a_player_raises_goes_on(self):
        game = Shared(FLIP + Rule("xx", ""))
        self.raises(NoMove("oo"), winner, game, "xx" + "oo", Told(game, (0, 0)), Raising(game))
        turns = contest(game, "xxo", Leftmost(game), Raising(game))
        next(turns)
        self.raises(NoMove("oo"), next, turns)

    def test_a_player_of_another_game(self):
        only = Leftmost(Shared(Book(XO, Rule("xx", ""))))
        self.raises(BadMove("place"), winner, Shared(Book(XO, Rule("xo", ""))), "xxo", only, only)


class Raising(Player):
    """A player who makes no move."""

    def chosen(self, row, seat=0):
        raise NoMove("oo")
