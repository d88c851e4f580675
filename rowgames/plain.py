"""Plain play: positions are judged by going through all plays from them."""

from rowgames.errors import TooMany
from rowgames.letters import check_row
from rowgames.orders import in_order


def met(game, row, seat=0, *, most=2000):
    """The positions to which plays lead from a position, by the order of rows, then by seat."""
    behind = positions_behind(game, row, seat, most)
    return in_order(game.weights, list(behind))


def is_won(game, row, seat=0, *, most=2000):
    """Whether a row is won for a seat."""
    behind = positions_behind(game, row, seat, most)
    won = {}
    # Moves lead to lighter rows: so what is behind a position is judged ahead of it.
    for position in in_order(game.weights, list(behind)):
        answers = [won[led] for led in behind[position]]
        won[position] = game.reads(is_goal(game, position[0]), answers)
    return won[(row, seat)]


def is_goal(game, row):
    """Whether a row is a goal row of a game that has a goal."""
    return game.goal is not None and game.goal[row]


def positions_behind(game, row, seat, most):
    """For each position that is met the list of those to which its moves lead."""
    game.book_of(seat)
    check_row(game.weights.signs, row)
    waiting = [(row, seat)]
    behind = {(row, seat): []}
    while waiting:
        position = waiting.pop()
        led = positions_led_to(game, position[0], position[1])
        behind[position] = led
        for further in led:
            if further not in behind:
                behind[further] = []
                waiting.append(further)
                if len(behind) > most:
                    raise TooMany("rows", most)
    return behind


def positions_led_to(game, row, seat):
    """The positions to which the moves of a seat lead, in the order of moves."""
    other = game.judge(seat)
    book = game.book_of(seat)
    return [(led, other) for led in book.led_to(row)]
