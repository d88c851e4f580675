"""Showing: whether any values have the form of stands and rows, and bound what is not looked at.

Stands stand in pairs here, each with a state of a machine, as in walking.py: only at rows that this
machine tells the equation must hold. To look at all rows it is the machine that tells every row.
"""

from rowgames.letters import is_from_to, weigh, wrong_at
from rowgames.machines import are_states
from rowgames.standing import stand_of


def is_stand(ground, value):
    """Whether any value has the form of a stand."""
    if not isinstance(value, tuple) or len(value) != 5:
        return False
    fresh, back, tail, moved, goal = value
    if not isinstance(fresh, bool) or not are_backs(ground, back) or not is_tail(ground, fresh, tail):
        return False
    return are_moved(ground, moved) and is_goal_state(ground, goal)


def are_backs(ground, value):
    """Whether any value is a tuple with a state of each machine."""
    if not isinstance(value, tuple) or len(value) != len(ground.ways):
        return False
    return all([is_from_to(state, 0, len(ways) - 1) for state, ways in zip(value, ground.ways)])


def is_tail(ground, fresh, value):
    """Whether any value is a tail, of fewer signs than the longest old stretch only if it is fresh."""
    if wrong_at(ground.letters, value) is not None:
        return False
    longest = ground.game.longest
    return len(value) == longest or (fresh and len(value) < longest)


def are_moved(ground, value):
    """Whether any value is a tuple with an ascending tuple of judging states for each seat."""
    if not isinstance(value, tuple) or len(value) != len(ground.ways):
        return False
    for seat, states in enumerate(value):
        ways = ground.ways[ground.game.judges[seat]]
        if not isinstance(states, tuple) or not are_states(states, len(states), len(ways) - 1):
            return False
        if not all([one < other for one, other in zip(states, states[1:])]):
            return False
    return True


def is_goal_state(ground, value):
    """Whether any value is a state of the goal, or None if there is no goal."""
    if ground.game.goal is None:
        return value is None
    return is_from_to(value, 0, len(ground.game.goal) - 1)


def is_pair_of(ground, among, value):
    """Whether any value is a tuple of what has the form of a stand and of a state."""
    if not isinstance(value, tuple) or len(value) != 2:
        return False
    return is_stand(ground, value[0]) and is_from_to(value[1], 0, len(among) - 1)


def is_bound(ground, among, value):
    """Whether any value is a tuple of such a pair and a row."""
    if not isinstance(value, tuple) or len(value) != 2:
        return False
    return is_pair_of(ground, among, value[0]) and wrong_at(ground.letters, value[1]) is None


def pair_behind(ground, among, pair, at):
    """The pair of the rows with a pair and one sign more."""
    return (ground.further(pair[0], at), among.steps[pair[1]][at])


def is_passing(ground, among, pair):
    """Whether a pair does not fail: its state is not told, or its stand passes for all seats."""
    return not among.told[pair[1]] or ground.failing(pair[0]) is None


def shows_table(ground, among, table):
    """Whether any value is a tuple of different pairs, closed by all signs, that all pass."""
    if not isinstance(table, tuple) or not all([is_pair_of(ground, among, pair) for pair in table]):
        return False
    if len(set(table)) != len(table) or not is_closed(ground, among, table):
        return False
    return all([is_passing(ground, among, pair) for pair in table])


def is_closed(ground, among, pairs):
    """Whether pairs have that of the empty row and, with each, the next ones by all signs."""
    listed = {pair: True for pair in pairs}
    if (ground.first(), 0) not in listed:
        return False
    many = len(ground.letters)
    return all([pair_behind(ground, among, pair, at) in listed for pair in pairs for at in range(many)])


def shows_first(ground, among, row, seat, bounds):
    """Whether any values are the first row that fails, its first failing seat, and its bounds."""
    if wrong_at(ground.letters, row) is not None or not is_from_to(seat, 0, len(ground.ways) - 1):
        return False
    if not isinstance(bounds, tuple) or not all([is_bound(ground, among, bound) for bound in bounds]):
        return False
    if len(set([pair for pair, _ in bounds])) != len(bounds) or not among[row]:
        return False
    stand = stand_of(ground.game, ground.machines, row)
    return ground.failing(stand) == seat and do_bound(ground, among, bounds, row)


def do_bound(ground, among, bounds, row):
    """Whether bounds, of the right form, show that all rows ahead of a row pass."""
    last = rank_of(ground, row)
    ranks = {pair: rank_of(ground, beside) for pair, beside in bounds}
    if row != "" and ((ground.first(), 0) not in ranks or ranks[(ground.first(), 0)] != rank_of(ground, "")):
        return False
    for pair, rank in ranks.items():
        if rank < last and not (is_passing(ground, among, pair) and goes_on(ground, among, ranks, pair, last)):
            return False
    return True


def goes_on(ground, among, ranks, pair, last):
    """Whether the next pairs of one that is ahead of the last row are there, as far as they matter."""
    for at in range(len(ground.letters)):
        rank = rank_behind(ground, ranks[pair], at)
        if rank < last:
            further = pair_behind(ground, among, pair, at)
            if further not in ranks or ranks[further] > rank:
                return False
    return True


def rank_of(ground, row):
    """What orders rows: weight, length, and the indexes of the signs as figures."""
    marks = "".join([str(ground.letters.index(sign)) for sign in row])
    return (weigh(ground.game.weights.pairs, row), len(row), marks)


def rank_behind(ground, rank, at):
    """The rank of a row with one sign more."""
    weight, length, marks = rank
    return (weight + ground.game.weights.pairs[at][1], length + 1, f"{marks}{at}")
