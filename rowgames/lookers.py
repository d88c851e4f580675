"""Lookers: whether any values show that machines are right, or where they are wrong."""

from rowgames.machines import Machine
from rowgames.showing import shows_first, shows_table
from rowgames.standing import Ground


def shows_right(game, machines, table):
    """Whether a table shows that machines are right."""
    ground = Ground(game, machines)
    if not isinstance(table, tuple):
        return False
    pairs = tuple([(stand, 0) for stand in table])
    return shows_table(ground, Machine.every(ground.letters), pairs)


def shows_wrong(game, machines, row, seat, bounds):
    """Whether bounds show that a row is the first one at which machines fail, for this seat first."""
    ground = Ground(game, machines)
    if not isinstance(bounds, tuple) or not all([isinstance(bound, tuple) and len(bound) == 2 for bound in bounds]):
        return False
    paired = tuple([((stand, 0), beside) for stand, beside in bounds])
    return shows_first(ground, Machine.every(ground.letters), row, seat, paired)
