"""Standing: what the stands of rows go by, for a game and its machines."""

from rowgames.ends import ends_row, text_put
from rowgames.errors import BadGame, OtherSigns
from rowgames.machines import Machine


class Ground:
    """A game and a machine for each seat, ready for going from stand to stand.

    A stand is a tuple (fresh, back, tail, moved, goal), as stands.py tells.
    """

    def __init__(self, game, machines):
        self.game = game
        self.machines = machines
        self.letters = game.weights.signs
        self.tail_length = game.longest
        self.ways = [machine.steps for machine in machines]

    def first(self):
        """The stand of the empty row."""
        many = len(self.ways)
        return (True, (0,) * many, "", ((),) * many, None if self.game.goal is None else 0)

    def further(self, stand, at):
        """The stand of the rows with a stand and one sign more, the sign with this index."""
        fresh, back, tail, moved, goal = stand
        tail = tail + self.letters[at]
        if len(tail) > self.tail_length:
            gone = self.letters.index(tail[0])
            back = tuple([ways[state][gone] for ways, state in zip(self.ways, back)])
            tail = tail[1:]
            fresh = False
        found = []
        for seat, judge in enumerate(self.game.judges):
            ways = self.ways[judge]
            states = [ways[state][at] for state in moved[seat]]
            found.append(ascending(states + self.put_on(seat, False, fresh, back, tail)))
        if goal is not None:
            goal = self.game.goal.steps[goal][at]
        return (fresh, back, tail, tuple(found), goal)

    def put_on(self, seat, right, fresh, back, tail):
        """The judging states behind the moves of a seat by rules whose old stretch ends a tail.

        They are those of the rules of the right end, or those of the others.
        """
        judge = self.game.judges[seat]
        ways = self.ways[judge]
        states = []
        for rule in self.game.books[seat].rules:
            if tail.endswith(rule.old) and rule.right == right and ends_row(rule, fresh, tail):
                state = back[judge]
                for sign in text_put(rule, tail):
                    state = ways[state][self.letters.index(sign)]
                states.append(state)
        return states

    def answers_behind(self, stand, seat):
        """What the judging machine tells behind the moves of a seat, each answer at least once."""
        fresh, back, tail, moved, _ = stand
        told = self.machines[self.game.judges[seat]].told
        return [told[state] for state in list(moved[seat]) + self.put_on(seat, True, fresh, back, tail)]

    def is_told(self, stand, seat):
        """Whether the machine of a seat tells the rows with a stand."""
        ways = self.ways[seat]
        state = stand[1][seat]
        for sign in stand[2]:
            state = ways[state][self.letters.index(sign)]
        return self.machines[seat].told[state]

    def passes(self, stand, seat):
        """Whether the equation of a seat holds at the rows with a stand."""
        is_goal = stand[4] is not None and self.game.goal.told[stand[4]]
        return self.is_told(stand, seat) == self.game.reads(is_goal, self.answers_behind(stand, seat))

    def failing(self, stand):
        """The first seat whose equation fails at the rows with a stand, None if none does."""
        for seat in range(len(self.ways)):
            if not self.passes(stand, seat):
                return seat
        return None


def led_by(ways, state, indexes):
    """The state behind signs, given by their indexes, that are read from a state on."""
    for at in indexes:
        state = ways[state][at]
    return state


def ascending(states):
    """The tuple of some states, ascending, none twice."""
    if len(states) < 2:
        return tuple(states)
    return tuple(sorted(set(states)))


def stand_of(game, machines, row):
    """The stand of a row, told at once by its moves."""
    letters = game.weights.signs
    indexes = [letters.index(sign) for sign in row]
    paths = [states_on(machine.steps, indexes) for machine in machines]
    cut = max(0, len(row) - game.longest)
    back = tuple([path[cut] for path in paths])
    moved = []
    for judge, book in zip(game.judges, game.books):
        moved.append(states_behind(book.rules, row, letters, machines[judge].steps, paths[judge]))
    goal = None if game.goal is None else led_by(game.goal.steps, 0, indexes)
    return (cut == 0, back, row[cut:], tuple(moved), goal)


def states_on(ways, indexes):
    """The states ahead of the first sign, behind it, behind the second one and so on."""
    state = 0
    states = [0]
    for at in indexes:
        state = ways[state][at]
        states.append(state)
    return states


def states_behind(rules, row, letters, ways, path):
    """The states behind the moves from a row by rules that are not of the right end, ascending."""
    states = []
    for rule in rules:
        place = -1 if rule.right else row.find(rule.old)
        while place == 0 or (place > 0 and not rule.left):
            state = path[place]
            for sign in rule.new + row[place + len(rule.old):]:
                state = ways[state][letters.index(sign)]
            states.append(state)
            place = row.find(rule.old, place + 1)
    return ascending(states)


def are_given(game, machines):
    """Whether any values are Machines, one for each seat."""
    return len(machines) == game.seats and all([isinstance(machine, Machine) for machine in machines])


def are_of_signs(game, machines):
    """Whether machines have the signs of a game, in their order."""
    return all([machine.signs == game.weights.signs for machine in machines])


def check_machines(game, machines):
    """Raise what any values as the machines of a game do not let pass."""
    if not are_given(game, machines):
        raise BadGame("machines")
    if not are_of_signs(game, machines):
        raise OtherSigns("machines")


def are_machines(game, value):
    """Whether any value is a list or tuple of machines that fit a game."""
    return isinstance(value, (list, tuple)) and are_given(game, value) and are_of_signs(game, value)
