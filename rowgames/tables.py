"""Tables: whether machines are right, with what shows it."""

from rowgames.ends import Ends
from rowgames.games import Equation
from rowgames.standing import check_machines
from rowgames.surveying import Survey
from rowgames.walking import passed_pairs


class Look:
    """What is seen of a game and machines. Looks are made by look alone."""

    def __init__(self, game, machines):
        self.game = game
        self.machines = machines

    def __bool__(self):
        return isinstance(self, Right)

    def __eq__(self, other):
        return isinstance(other, Look) and self.is_of(other)

    def is_of(self, other):
        """Whether another look is at an equal game and equal machines."""
        return self.game == other.game and self.machines == other.machines


class Right(Look):
    """The machines are the solution of the game: table has all stands."""

    def __init__(self, game, machines, table):
        super().__init__(game, machines)
        self.table = table

    def __bool__(self):
        return True

    def __eq__(self, other):
        return isinstance(other, Right) and self.is_of(other) and self.table == other.table


class Wrong(Look):
    """A machine is wrong at a row, and none is at the rows ahead of it, which bounds shows."""

    def __init__(self, game, machines, row, seat, bounds):
        super().__init__(game, machines)
        self.row = row
        self.seat = seat
        self.bounds = bounds

    def __bool__(self):
        return False

    def __eq__(self, other):
        return isinstance(other, Wrong) and self.is_of(other) and self.has_place_of(other)

    def has_place_of(self, other):
        """Whether another look tells the same row and seat, and the same bounds."""
        return self.row == other.row and self.seat == other.seat and self.bounds == other.bounds


def look(game, *machines, most=2000):
    """Whether machines are right: a Right or a Wrong."""
    check_machines(game, machines)
    return look_on(Ends(game), Equation(game), game, machines, most)


def look_on(ends, equation, game, machines, most):
    """What look tells; ends and equation are those of the game, kept for further looks."""
    passed, row, seat = passed_pairs(Survey(ends, game, machines, None), equation, None, most)
    if row is None:
        return Right(game, machines, tuple([pair[0] for pair, _ in passed]))
    return Wrong(game, machines, row, seat, tuple([(pair[0], first) for pair, first in passed]))
