"""Ways: the moves that lead from a won row of a Some to a goal row."""

from rowgames.errors import BadGame, NotRight, NotWon, OtherSigns
from rowgames.games import Some
from rowgames.letters import check_row
from rowgames.moving import is_move, row_of_move
from rowgames.players import first_of, winning_moves


def way(game, machine, row):
    """The moves from a row to a goal row: at each row the first one that the machine calls winning."""
    check_some(game)
    if machine.signs != game.weights.signs:
        raise OtherSigns("machine")
    check_row(machine.signs, row)
    if not machine[row]:
        raise NotWon(row)
    moves = []
    while not game.goal[row]:
        move = first_of(winning_moves(game, (machine,), row, 0))
        if move is None:
            raise NotRight(row, 0)
        moves.append(move)
        row = row_of_move(game.books[0].rules, row, move)
    return moves


def shows_way(game, row, moves):
    """Whether any value is a list or tuple of moves that lead from a row to a goal row."""
    check_some(game)
    check_row(game.weights.signs, row)
    if not isinstance(moves, (list, tuple)):
        return False
    rules = game.books[0].rules
    for move in moves:
        if not is_move(rules, row, move):
            return False
        row = row_of_move(rules, row, move)
    return game.goal[row]


def check_some(game):
    """Raise BadGame for a game that is no Some."""
    if not isinstance(game, Some):
        raise BadGame("kind")
