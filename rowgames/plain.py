"""Plain play: positions are judged by going through all plays from them."""

from rowgames.games import check_seat
from rowgames.letters import check_row
from rowgames.orders import positions_in_order
from rowgames.playing import Plays


def met(game, row, seat=0, *, most=2000):
    """The positions to which plays lead from a position, by the order of rows, then by seat."""
    check_position(game, row, seat)
    plays = Plays(game, most)
    levels, _ = plays.meet(row, seat)
    return positions_in_order(game.weights.signs, plays.rows_led, levels)


def is_won(game, row, seat=0, *, most=2000):
    """Whether a row is won for a seat."""
    check_position(game, row, seat)
    plays = Plays(game, most)
    return plays.is_won(row, seat)


def check_position(game, row, seat):
    """Raise BadSeat for any value that is no seat of a game, then BadRow for one that is no row."""
    check_seat(game, seat)
    check_row(game.weights.signs, row)
