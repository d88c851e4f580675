"""Stands: what machines have to remember of a row, that the equation can be looked at there."""

from rowgames.errors import BadSigns
from rowgames.games import check_seat
from rowgames.letters import check_row
from rowgames.machines import Machine
from rowgames.standing import Ground
from rowgames.walking import walk


def stand_at(game, machines, row):
    """The stand of a row: a tuple (fresh, back, tail, moved, goal)."""
    check_row(game.weights.signs, row)
    ground = Ground(game, machines)
    return ground.stand_of(row)


def next_stand(game, machines, stand, sign):
    """The stand of each row with this stand and one sign more."""
    if sign not in game.weights:
        raise BadSigns(sign)
    ground = Ground(game, machines)
    return ground.further(stand, game.weights.signs.index(sign))


def passes(game, machines, stand, seat):
    """Whether the equation of a seat holds at the rows with this stand."""
    check_seat(game, seat)
    ground = Ground(game, machines)
    return ground.passes(stand, seat)


def stands(game, machines, *, most=2000):
    """Each stand that a row has, with the first such row, in the order of these rows."""
    ground = Ground(game, list(machines))
    among = Machine.every(ground.letters)
    for pair, row in walk(ground, among, most):
        yield pair[0], row
