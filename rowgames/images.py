"""Images: machines of the rows at which something holds of their moves. They are least."""

from rowgames.ends import Ends
from rowgames.errors import BadGame, OtherSigns
from rowgames.games import Equation, Shared, Some
from rowgames.machines import Machine, least_machine
from rowgames.standing import check_machines
from rowgames.surveying import Readings, Survey, surveyed, told_set


def led_into(book, machine, *, most=2000):
    """The machine of the rows from which some move leads to a row that a machine tells."""
    if machine.signs != book.weights.signs:
        raise OtherSigns("machine")
    survey = survey_of(Shared(book), (machine,))
    codes, steps = surveyed(survey, most)
    states = told_set(machine.told, True)
    return least_machine(machine.signs, steps, [survey.moved(code, 0) & states > 0 for code in codes])


def stuck(book, *, most=2000):
    """The machine of the rows without a move."""
    signs = book.weights.signs
    survey = survey_of(Shared(book), (Machine.none(signs),))
    codes, steps = surveyed(survey, most)
    return least_machine(signs, steps, [survey.moved(code, 0) == 0 for code in codes])


def image(game, *machines, most=2000):
    """For each seat the machine of the rows at which the right side of the equation holds."""
    check_machines(game, machines)
    survey = survey_of(game, machines)
    codes, steps = surveyed(survey, most)
    readings = Readings(survey, Equation(game))
    images = []
    for seat in range(game.seats):
        told = [readings.reads(code, seat) for code in codes]
        images.append(least_machine(game.weights.signs, steps, told))
    return tuple(images)


def within(game, *, most=2000):
    """The machines of the rows from which 0, at most 1, at most 2 and so on moves lead to a goal row."""
    if not isinstance(game, Some):
        raise BadGame("kind")
    book = game.book_of(0)
    ahead = None
    nearer = game.goal.least()
    while nearer != ahead:
        yield nearer
        ahead = nearer
        nearer = game.goal | led_into(book, ahead, most=most)
    yield nearer


def survey_of(game, machines):
    """The survey of a game and machines."""
    return Survey(Ends(game), game, machines, None)
