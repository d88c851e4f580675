"""Stands: what machines have to remember of a row, that the equation can be looked at there."""

from rowgames.ends import Ends
from rowgames.errors import BadSigns
from rowgames.games import check_seat
from rowgames.letters import check_row
from rowgames.standing import Ground, stand_of
from rowgames.surveying import Survey
from rowgames.walking import walk


def stand_at(game, machines, row):
    """The stand of a row: a tuple (fresh, back, tail, moved, goal)."""
    check_row(game.weights.signs, row)
    return stand_of(game, machines, row)


def next_stand(game, machines, stand, sign):
    """The stand of each row with this stand and one sign more."""
    if sign not in game.weights:
        raise BadSigns(sign)
    ground = Ground(game, machines)
    return ground.further(stand, game.weights.signs.index(sign))


def passes(game, machines, stand, seat):
    """Whether the equation of a seat holds at the rows with this stand."""
    check_seat(game, seat)
    ground = Ground(game, machines)
    return ground.passes(stand, seat)


def stands(game, machines, *, most=2000):
    """Each stand that a row has, with the first such row, in the order of these rows."""
    survey = Survey(Ends(game), game, list(machines), None)
    for code, row in walk(survey, most):
        yield survey.stand_of_code(code), row
