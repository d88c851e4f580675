"""Least: the machines of the fewest states that are right, or beginnings that bar them."""

from rowgames.errors import BadNumber
from rowgames.letters import is_from_to
from rowgames.searching import Search


class Size:
    """The base of what the search for machines of so many states tells."""

    MOST = 12

    def __bool__(self):
        return isinstance(self, Least)


class Least(Size):
    """The least right machines, with what shows that they are."""

    def __init__(self, machines, table, members, endings):
        self.machines = machines
        self.table = table
        self.members = members
        self.endings = endings

    def __bool__(self):
        return True


class Parted(Size):
    """Beginnings of rows that no machine of so many states can keep apart, with what shows it."""

    def __init__(self, seat, beginnings, endings, ledger):
        self.seat = seat
        self.beginnings = beginnings
        self.endings = endings
        self.ledger = ledger

    def __bool__(self):
        return False


def least(game, most, *, rows=2000, stands=2000):
    """The right machines with the fewest states, of at most so many each, or what bars them."""
    check_most(most)
    search = Search(game, most, rows)
    while True:
        seat = search.grown()
        if seat is not None:
            endings = search.parting(seat)
            return Parted(seat, tuple(search.members[seat]), endings, search.ledger_of_parting(seat, endings))
        found = search.looked(stands)
        if found:
            members, endings = search.members_and_endings()
            return Least(found.machines, found.table, members, endings)


def sizes(game, most, *, rows=2000, stands=2000):
    """What the search tells for at most 1, 2 and so on states, up to the first Least."""
    check_most(most)
    for size in range(1, most + 1):
        found = least(game, size, rows=rows, stands=stands)
        yield found
        if found:
            return


def check_most(most):
    """Raise BadNumber for any value that is no number of states to search for."""
    if not is_from_to(most, 1, Size.MOST):
        raise BadNumber("most")
