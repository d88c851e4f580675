"""Parted: whether any values show that machines are least, or that beginnings are parted."""

from rowgames.ledgers import is_right_ledger
from rowgames.letters import is_from_to, wrong_at
from rowgames.lookers import shows_right
from rowgames.standing import are_machines


def shows_least(game, machines, table, members, endings):
    """Whether machines are right and have the fewest states."""
    if not are_machines(game, machines):
        return False
    if not are_for_seats(game, members) or not are_for_seats(game, endings):
        return False
    for seat, machine in enumerate(machines):
        if not are_members(machine, members[seat]) or not part_states(machine, members[seat], endings[seat]):
            return False
    return shows_right(game, machines, table)


def are_for_seats(game, value):
    """Whether any value is a tuple with as many items as the game has seats."""
    return isinstance(value, tuple) and len(value) == game.seats


def are_members(machine, value):
    """Whether any value is a tuple with a row for each state, in order, that leads there."""
    if not isinstance(value, tuple) or len(value) != len(machine):
        return False
    if not are_rows(machine.signs, value):
        return False
    return all([machine.state(row) == state for state, row in enumerate(value)])


def are_rows(signs, value):
    """Whether a tuple has nothing but rows."""
    return all([wrong_at(signs, row) is None for row in value])


def part_states(machine, members, value):
    """Whether any value has just one triple for each two states, ascending, that parts them."""
    if not are_triples(machine.signs, len(members), value):
        return False
    return all([machine[members[one] + z] != machine[members[other] + z] for one, other, z in value])


def are_triples(signs, many, value):
    """Whether any value is a tuple of a triple (i, j, z) for each i < j of so many, ascending, z a row."""
    pairs = [(one, other) for one in range(many) for other in range(one + 1, many)]
    if not isinstance(value, tuple) or len(value) != len(pairs):
        return False
    return all([is_triple(signs, pair, triple) for pair, triple in zip(pairs, value)])


def is_triple(signs, pair, value):
    """Whether any value is a triple of these two numbers and a row."""
    if not isinstance(value, tuple) or len(value) != 3 or wrong_at(signs, value[2]) is not None:
        return False
    return all([is_from_to(given, number, number) for given, number in zip(value, pair)])


def shows_parted(game, seat, beginnings, endings, ledger):
    """Whether beginnings are parted in pairs for a seat, by their endings and a ledger."""
    signs = game.weights.signs
    if not is_from_to(seat, 0, game.seats - 1):
        return False
    if not isinstance(beginnings, tuple) or len(beginnings) < 2 or not are_rows(signs, beginnings):
        return False
    if not are_triples(signs, len(beginnings), endings) or not is_right_ledger(game, ledger):
        return False
    for one, other, z in endings:
        if not is_parting(ledger, (beginnings[one] + z, seat), (beginnings[other] + z, seat)):
            return False
    return True


def is_parting(ledger, one, other):
    """Whether a ledger has two positions of which just one is won."""
    return one in ledger and other in ledger and ledger[one][0] != ledger[other][0]
