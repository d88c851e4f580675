"""Players: who move by what machines tell, or without them, and contests of two of them."""

from rowgames.errors import BadGame, BadNumber, BadSeat, NoMove
from rowgames.games import Alone, Duel, check_seat
from rowgames.judging import answers_behind
from rowgames.letters import check_row, is_from_to, is_natural
from rowgames.moving import first_move, has_move, moves_from, row_behind_move
from rowgames.standing import check_machines


class Player:
    """The base of all players of a game."""

    def __init__(self, game):
        self.game = game


class Seer(Player):
    """Sees winning moves by machines, which may be wrong."""

    def __init__(self, game, *machines):
        super().__init__(game)
        check_machines(game, machines)
        self.machines = machines

    def winning(self, row, seat=0):
        """The first winning move, or None."""
        check_place(self.game, row, seat)
        return first_of(winning_moves(self.game, self.machines, row, seat))

    def all_winning(self, row, seat=0):
        """All winning moves, ascending."""
        check_place(self.game, row, seat)
        for move in winning_moves(self.game, self.machines, row, seat):
            yield move


class Mover(Player):
    """The base of the players who make moves. Each one below chooses in its own way."""

    def chosen(self, row, seat=0):
        """The move that it makes."""
        moves_to_choose(self.game, row, seat)
        raise NotImplementedError("each kind of mover chooses itself")

    def __call__(self, row, seat=0):
        return self.chosen(row, seat)


class Leftmost(Mover):
    """Makes the first move."""

    def chosen(self, row, seat=0):
        """The move that it makes."""
        check_place(self.game, row, seat)
        move = first_move(self.game.books[seat].rules, row)
        if move is None:
            raise NoMove(row)
        return move

    def __call__(self, row, seat=0):
        return self.chosen(row, seat)


class Numbered(Mover):
    """Makes the moves that its numbers tell, one after another and then from the first one on."""

    def __init__(self, game, *numbers):
        super().__init__(game)
        if len(numbers) == 0 or not all([is_natural(number) for number in numbers]):
            raise BadNumber("numbers")
        self.numbers = numbers
        self.at = 0

    def chosen(self, row, seat=0):
        """The move that it makes."""
        moves = moves_to_choose(self.game, row, seat)
        number = self.numbers[self.at % len(self.numbers)]
        self.at = self.at + 1
        return moves[number % len(moves)]

    def __call__(self, row, seat=0):
        return self.chosen(row, seat)


class Perfect(Seer, Mover):
    """Makes the first winning move, or the first move if none is."""

    def winning(self, row, seat=0):
        """The first winning move, or None."""
        return super().winning(row, seat)

    def all_winning(self, row, seat=0):
        """All winning moves, ascending."""
        check_place(self.game, row, seat)
        for move in winning_moves(self.game, self.machines, row, seat):
            yield move

    def chosen(self, row, seat=0):
        """The move that it makes."""
        moves = moves_to_choose(self.game, row, seat)
        return first_of(winning_among(self.game, self.machines, row, seat, moves) + moves)

    def __call__(self, row, seat=0):
        return self.chosen(row, seat)


def check_place(game, row, seat):
    """Raise BadRow for any value that is no row, then BadSeat for one that is no seat."""
    check_row(game.weights.signs, row)
    check_seat(game, seat)


def first_of(moves):
    """The first of some moves, None if there is none."""
    if moves == []:
        return None
    return moves[0]


def winning_moves(game, machines, row, seat):
    """The moves of a seat that are winning by machines, ascending."""
    return winning_among(game, machines, row, seat, moves_from(game.books[seat].rules, row))


def winning_among(game, machines, row, seat, moves):
    """Those of all moves of a seat from a row that are winning by machines."""
    if moves == []:
        return []
    wanted = isinstance(game, Alone)
    answers = answers_behind(machines[game.judges[seat]], game.books[seat].rules, row, moves)
    return [move for move, answer in zip(moves, answers) if answer == wanted]


def moves_to_choose(game, row, seat):
    """The moves of a seat from a row; raises NoMove if there is none."""
    check_place(game, row, seat)
    moves = moves_from(game.books[seat].rules, row)
    if moves == []:
        raise NoMove(row)
    return moves


def contest(game, row, *players, begins=0):
    """Each move of a contest: the number of the player, the move, and the row behind it."""
    check_contest(game, row, players, begins)
    yield from turns(game, row, players, begins)


def winner(game, row, *players, begins=0):
    """The number of the player who wins a contest."""
    check_contest(game, row, players, begins)
    to_move = begins
    for number, _, _ in turns(game, row, players, begins):
        to_move = 1 - number
    if game.last:
        return 1 - to_move
    return to_move


def turns(game, row, players, begins):
    """The moves of two players by turns, until there is no move for the one who is to move."""
    # The seats at which the players move: of Sides their numbers, otherwise 0 and 0.
    seats = (0, game.seats - 1)
    rules = [game.books[seat].rules for seat in seats]
    number = begins
    while has_move(rules[number], row):
        move = players[number].chosen(row, seats[number])
        row = row_behind_move(rules[number], row, move)
        yield number, move, row
        number = 1 - number


def check_contest(game, row, players, begins):
    """Raise what a contest does not let pass."""
    if not isinstance(game, Duel):
        raise BadGame("kind")
    check_row(game.weights.signs, row)
    if len(players) != 2:
        raise BadNumber("players")
    if not is_from_to(begins, 0, 1):
        raise BadSeat(begins)
