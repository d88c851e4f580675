"""Images: machines of the rows at which something holds of their moves. They are least."""

from rowgames.errors import BadGame, OtherSigns
from rowgames.games import Shared, Some
from rowgames.machines import Machine, least_machine
from rowgames.standing import Ground, check_machines
from rowgames.walking import drawn, walk


def led_into(book, machine, *, most=2000):
    """The machine of the rows from which some move leads to a row that a machine tells."""
    if machine.signs != book.weights.signs:
        raise OtherSigns("machine")
    ground, table, steps = surveyed(Shared(book), (machine,), most)
    told = [any(ground.answers_behind(stand, 0)) for stand in table]
    return least_machine(machine.signs, steps, told)


def stuck(book, *, most=2000):
    """The machine of the rows without a move."""
    signs = book.weights.signs
    ground, table, steps = surveyed(Shared(book), (Machine.none(signs),), most)
    told = [ground.answers_behind(stand, 0) == [] for stand in table]
    return least_machine(signs, steps, told)


def image(game, *machines, most=2000):
    """For each seat the machine of the rows at which the right side of the equation holds."""
    check_machines(game, machines)
    ground, table, steps = surveyed(game, machines, most)
    images = []
    for seat in range(game.seats):
        told = [ground.reads(stand, seat) for stand in table]
        images.append(least_machine(game.weights.signs, steps, told))
    return tuple(images)


def within(game, *, most=2000):
    """The machines of the rows from which 0, at most 1, at most 2 and so on moves lead to a goal row."""
    if not isinstance(game, Some):
        raise BadGame("kind")
    book = game.book_of(0)
    ahead = None
    nearer = game.goal.least()
    while nearer != ahead:
        yield nearer
        ahead = nearer
        nearer = game.goal | led_into(book, ahead, most=most)
    yield nearer


def surveyed(game, machines, most):
    """The ground of a game and machines, all stands, and the steps of the machine that they are."""
    ground = Ground(game, machines)
    among = Machine.every(ground.letters)
    table = [pair[0] for pair, _ in walk(ground, among, most)]
    return ground, table, drawn(ground, table)
