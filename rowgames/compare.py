"""Comparing games: whether they have the same winners, and which rules are needed for these."""

from rowgames.choosing import choices_in_order, game_of_choice, is_choice, whole_choice, without
from rowgames.errors import BadGame, NotRight, OtherSigns, TooMany
from rowgames.games import Sides
from rowgames.lookers import shows_right, shows_wrong
from rowgames.standing import check_machines
from rowgames.tables import look


class Likeness:
    """The base of what is told of two games: shown is the table of the machines for the first one."""

    def __init__(self, shown):
        self.shown = shown

    def __bool__(self):
        return isinstance(self, Alike)


class Alike(Likeness):
    """The games have the same winners: table shows it for the other one."""

    def __init__(self, shown, table):
        super().__init__(shown)
        self.table = table

    def __bool__(self):
        return True


class Unlike(Likeness):
    """The first row and seat at which the winners are not the same, which bounds shows."""

    def __init__(self, shown, row, seat, bounds):
        super().__init__(shown)
        self.row = row
        self.seat = seat
        self.bounds = bounds

    def __bool__(self):
        return False


class Fewest:
    """The first choice of rules with the same winners, and why it is none of those ahead."""

    def __init__(self, choice, game, reasons):
        self.choice = choice
        self.game = game
        self.reasons = reasons

    def __len__(self):
        return len([index for stay in self.choice for index in stay])


def alike(one, machines, other, *, most=2000):
    """Whether another game has the same winners as one whose solution is given."""
    check_pair(one, other)
    shown = right_table(one, machines, most)
    found = look(other, *machines, most=most)
    if found:
        return Alike(shown, found.table)
    return Unlike(shown, found.row, found.seat, found.bounds)


def shows_alike(one, machines, other, shown, table):
    """Whether any values show that two games have the same winners."""
    check_pair(one, other)
    return shows_right(one, machines, shown) and shows_right(other, machines, table)


def shows_unlike(one, machines, other, shown, row, seat, bounds):
    """Whether any values show the first row and seat at which the winners are not the same."""
    check_pair(one, other)
    return shows_right(one, machines, shown) and shows_wrong(other, machines, row, seat, bounds)


def check_pair(one, other):
    """Raise what two games do not let pass that are compared."""
    if one.weights != other.weights:
        raise OtherSigns("other")
    if one.seats != other.seats:
        raise BadGame("seats")


def right_table(game, machines, most):
    """The table that shows that machines are right; raises NotRight."""
    found = look(game, *machines, most=most)
    if not found:
        raise NotRight(found.row, found.seat)
    return found.table


def fewer(game, choice):
    """The game whose books have the rules of a choice alone."""
    if not is_choice(game, choice):
        raise BadGame("choice")
    return game_of_choice(game, choice)


def needless(game, machines, *, most=2000):
    """The pairs (seat, index) of the rules without which the winners are the same, ascending."""
    right_table(game, machines, most)
    found = []
    for seat, stay in enumerate(whole_choice(game)):
        for index in stay:
            narrower = game_of_choice(game, without(game, seat, index))
            if look(narrower, *machines, most=most):
                found.append((seat, index))
    return tuple(found)


def fewest(game, machines, *, most=2000):
    """The first choice of rules whose game has the same winners: a Fewest."""
    if sum([len(book) for book in game.books]) > 8:
        raise TooMany("rules", 8)
    right_table(game, machines, most)
    choices = choices_in_order(game)
    reasons = []
    # The last choice is that of all rules, whose winners are the same.
    for choice in choices[:-1]:
        narrower = game_of_choice(game, choice)
        found = look(narrower, *machines, most=most)
        if found:
            return Fewest(choice, narrower, reasons)
        reasons.append((choice, found.row, found.seat))
    return Fewest(choices[-1], game, reasons)


def outcomes(game, machines):
    """For a Sides the machines of who wins: left, right, first (who begins) or second."""
    if not isinstance(game, Sides):
        raise BadGame("kind")
    check_machines(game, machines)
    left, right = machines
    neither = ~(left | right)
    return {"left": left - right, "right": right - left, "first": left & right, "second": neither.least()}
