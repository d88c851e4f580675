"""What the document says of plays, stands and machines, told by going through rows one by one."""

import itertools

from rowgames.books import Book
from rowgames.games import Every, Shared, Sides, Some
from rowgames.machines import Machine
from rowgames.rules import Rule
from rowgames.signs import Weights
from helpers import FLIP, ODD, XO

ABC = Weights(("b", 3), ("a", 1), ("c", 0))
LEFT = [Rule("b", "aa"), Rule("ab", "cb", left=True), Rule("aa", ""), Rule("cab", "b", right=True)]
RIGHT = [Rule("b", "ca"), Rule("a", "", right=True), Rule("ba", "ac"), Rule("bab", "cc", left=True, right=True)]
GOAL = Machine.modulo("bac", "a", 2) - Machine.having("bac", "aca")
LONG = [Rule("xoxx", "oooo"), Rule("xx", "", left=True), Rule("ox", "", left=True, right=True)]
NO_RULES = Book(XO)


def all_games():
    """Each kind of game, both endings of a duel."""
    one, two = Book(ABC, *LEFT), Book(ABC, *RIGHT)
    return [Some(one, GOAL), Every(one, GOAL), Shared(one), Shared(two, last=False), Sides(one, two),
            Sides(two, one, last=False)]


def small_games():
    """Games with few stands: old stretches of 0 to 4 signs, rules of all ends, some without rules."""
    many = Weights(("z", 0), ("x", 2), ("o", 1))
    ends = Book(XO, Rule("x", "o", left=True), Rule("xx", "o", right=True), Rule("xo", "oo", left=True, right=True))
    pair = Book(many, Rule("xo", "zz"), Rule("o", "", right=True))
    return [Shared(FLIP), Shared(FLIP, last=False), Some(FLIP, ODD), Every(FLIP, Machine.counting("xo", "o", 1)),
            Sides(FLIP, ends), Sides(ends, NO_RULES, last=False), Shared(NO_RULES), Shared(NO_RULES, last=False),
            Some(NO_RULES, ODD), Every(NO_RULES, ~ODD), Shared(Book(XO, *LONG)), Some(Book(XO, *LONG), ODD),
            Every(ends, Machine.having("xo", "ox")), Shared(pair), Sides(pair, pair),
            Shared(Book(Weights(("k", 1)), Rule("kk", "k"), Rule("kkk", "", right=True)))]


def some_machine(signs, states, seed):
    """A machine that looks arbitrary, the same one for the same numbers."""
    steps = [[(seed + 3 * state + 5 * at + state * at) % states for at in range(len(signs))] for state in range(states)]
    return Machine(signs, steps, [(seed + state) % 2 == 1 for state in range(states)])


def machines_of(game, states=2, seed=1):
    """A machine for each seat that looks arbitrary."""
    return tuple([some_machine(game.weights.signs, states, seed + seat) for seat in range(game.seats)])


def moves_of(rules, row):
    """The pairs (move, row behind it), told by cutting the row at each place."""
    found = []
    for place in range(len(row)):
        for index, rule in enumerate(rules):
            head, tail = row[:place], row[place:]
            if tail.startswith(rule.old):
                rest = tail[len(rule.old):]
                if not (rule.left and head) and not (rule.right and rest):
                    found.append(((place, index), head + rule.new + rest))
    return found


def other_seat(game, seat):
    """The seat that is to move behind a move."""
    return 1 - seat if isinstance(game, Sides) else seat


def behind(game, row, seat):
    """The positions to which the moves lead, in the order of moves."""
    return [(led, other_seat(game, seat)) for _, led in moves_of(game.books[seat].rules, row)]


def positions_of(game, row, seat=0):
    """The set of all positions that plays meet."""
    found, waiting = {(row, seat)}, [(row, seat)]
    while waiting:
        for position in behind(game, *waiting.pop()):
            if position not in found:
                found.add(position)
                waiting.append(position)
    return found


def equation(game, row, seat, answers):
    """The right side of the equation, as point [6] tells it for each kind of game."""
    if isinstance(game, Some):
        return game.goal[row] or True in answers
    if isinstance(game, Every):
        return game.goal[row] if not answers else False not in answers
    return False in answers or (not answers and not game.last)


def wins(game, row, seat, memo):
    """Whether a row is won for a seat; memo is a dict that may be kept for the same game."""
    if (row, seat) not in memo:
        answers = [wins(game, led, other, memo) for led, other in behind(game, row, seat)]
        memo[row, seat] = equation(game, row, seat, answers)
    return memo[row, seat]


def holds(game, machines, row, seat):
    """Whether the equation holds for a seat at a row, for the sets that machines tell."""
    answers = [machines[other][led] for led, other in behind(game, row, seat)]
    return machines[seat][row] == equation(game, row, seat, answers)


def rows_up_to(weights, length):
    """All rows of at most so many signs, in the order of rows."""
    rows = ["".join(row) for many in range(length + 1) for row in itertools.product(weights.signs, repeat=many)]
    return sorted(rows, key=weights.place)


def state_behind(machine, row):
    """The state of a machine behind a row."""
    state = 0
    for sign in row:
        state = machine.steps[state][machine.signs.index(sign)]
    return state


def stand_of(game, machines, row):
    """The stand of a row, by the words of point [8]."""
    longest = max([len(rule.old) for book in game.books for rule in book.rules], default=0)
    cut = max(0, len(row) - longest)
    moved = []
    for seat, book in enumerate(game.books):
        judge = machines[other_seat(game, seat)]
        moves = moves_of(book.rules, row)
        states = {state_behind(judge, led) for (_, index), led in moves if not book.rules[index].right}
        moved.append(tuple(sorted(states)))
    back = tuple([state_behind(machine, row[:cut]) for machine in machines])
    goal = None if game.goal is None else state_behind(game.goal, row)
    return (cut == 0, back, row[cut:], tuple(moved), goal)


def first_rows(game, machines, length):
    """The pairs (stand, first row) of all stands, by going through all rows up to a length.

    A first row without its last sign is a first row, too. So there are no longer ones than those
    that are found, if none of these has the greatest length.
    """
    found = {}
    for row in rows_up_to(game.weights, length):
        found.setdefault(stand_of(game, machines, row), row)
    assert max(len(row) for row in found.values()) < length
    return list(found.items())


def bent(machine):
    """All machines that differ from one in one answer or in one step."""
    found = []
    for state in range(len(machine)):
        told = list(machine.told)
        told[state] = not told[state]
        found.append(Machine(machine.signs, machine.steps, told))
        for at in range(len(machine.signs)):
            for led in range(len(machine)):
                steps = [list(onward) for onward in machine.steps]
                steps[state][at] = led
                if led != machine.steps[state][at]:
                    found.append(Machine(machine.signs, steps, machine.told))
    return found
