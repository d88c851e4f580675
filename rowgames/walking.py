"""Walking: all stands that rows have, in the order of their first rows."""

from rowgames.errors import TooMany


def walk(ground, among, most):
    """Each pair of a stand and a state of a further machine that rows have, with the first row.

    The order is that of these rows. The first row of a pair, without its last sign, is the first
    one of its own pair: so it is enough to go on from first rows. What is to come is kept by
    weight and by length, and there by the indexes of the signs, which are in order as texts are.
    """
    weights = [pair[1] for pair in ground.game.weights.pairs]
    waiting = {0: {0: {"": ("", (ground.first(), 0))}}}
    seen = {}
    while waiting:
        weight = min([int(key) for key in waiting])
        length = min([int(key) for key in waiting[weight]])
        nearest = taken_out(waiting, weight, length)
        for marks in sorted(list(nearest), key=str):
            row, pair = nearest[marks]
            if pair in seen:
                continue
            if len(seen) == most:
                raise TooMany("stands", most)
            seen[pair] = True
            yield pair, row
            for at, sign in enumerate(ground.letters):
                further = (ground.further(pair[0], at), among.steps[pair[1]][at])
                if further not in seen:
                    lengths = waiting.setdefault(weight + weights[at], {})
                    lengths.setdefault(length + 1, {})[f"{marks}{at}"] = (row + sign, further)


def passed_pairs(ground, among, most):
    """The pairs, with their first rows, up to the first one that fails; that one's row and seat.

    A pair fails if its state is told and the equation of a seat fails at its stand. Row and seat
    are None if none does.
    """
    passed = []
    for pair, row in walk(ground, among, most):
        if among.told[pair[1]]:
            seat = ground.failing(pair[0])
            if seat is not None:
                return passed, row, seat
        passed.append((pair, row))
    return passed, None, None


def taken_out(waiting, weight, length):
    """What waits at a weight and a length; it does not wait any more."""
    nearest = waiting[weight].pop(length)
    if len(waiting[weight]) == 0:
        del waiting[weight]
    return nearest


def drawn(ground, table):
    """The steps of the machine whose states are the stands of a table, in their order."""
    numbers = {stand: number for number, stand in enumerate(table)}
    many = len(ground.letters)
    return [[numbers[ground.further(stand, at)] for at in range(many)] for stand in table]
