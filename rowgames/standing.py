"""Standing: what the stands of rows go by, for a game and its machines."""

from rowgames.errors import BadGame, OtherSigns
from rowgames.machines import Machine


class Ground:
    """A game and a machine for each seat, ready for going from stand to stand.

    A stand is a tuple (fresh, back, tail, moved, goal), as stands.py tells.
    """

    def __init__(self, game, machines):
        self.game = game
        self.letters = game.weights.signs
        self.machines = machines
        self.ways = [machine.steps for machine in machines]
        self.judges = [game.judge(seat) for seat in range(game.seats)]
        self.loose = [[rule for rule in book.rules if not rule.right] for book in game.books]
        self.bound = [[rule for rule in book.rules if rule.right] for book in game.books]

    def spelled(self, text):
        """The indexes of the signs of a text."""
        return [self.letters.index(sign) for sign in text]

    def first(self):
        """The stand of the empty row."""
        many = len(self.ways)
        return (True, (0,) * many, "", ((),) * many, None if self.game.goal is None else 0)

    def stand_of(self, row):
        """The stand of a row."""
        stand = self.first()
        for at in self.spelled(row):
            stand = self.further(stand, at)
        return stand

    def further(self, stand, at):
        """The stand of the rows with a stand and one sign more, the sign with this index."""
        fresh, back, tail, moved, goal = stand
        tail = tail + self.letters[at]
        if len(tail) > self.game.longest:
            gone = self.letters.index(tail[0])
            back = tuple([ways[state][gone] for ways, state in zip(self.ways, back)])
            tail = tail[1:]
            fresh = False
        part = (fresh, back, tail)
        moved = tuple([self.moved_on(seat, states, at, part) for seat, states in enumerate(moved)])
        if goal is not None:
            goal = self.game.goal.steps[goal][at]
        return (fresh, back, tail, moved, goal)

    def moved_on(self, seat, moved, at, part):
        """The states behind the moves of a seat, one sign on; part is how the new stand begins."""
        ways = self.ways[self.judges[seat]]
        states = {ways[state][at]: True for state in moved}
        for state in self.put_by(self.loose[seat], seat, part):
            states[state] = True
        return tuple(sorted([int(state) for state in states]))

    def put_by(self, rules, seat, part):
        """The judging states behind the rules of a seat that fit where a row with a stand ends."""
        fresh, back, tail = part
        judge = self.judges[seat]
        found = []
        for rule in rules:
            whole = fresh and tail == rule.old
            if tail.endswith(rule.old) and (whole or not rule.left):
                text = tail[:len(tail) - len(rule.old)] + rule.new
                found.append(led_by(self.ways[judge], back[judge], self.spelled(text)))
        return found

    def answers_behind(self, stand, seat):
        """What the judging machine tells behind the moves of a seat, each answer at least once."""
        told = self.machines[self.judges[seat]].told
        states = list(stand[3][seat]) + self.put_by(self.bound[seat], seat, stand[:3])
        return [told[state] for state in states]

    def is_told(self, stand, seat):
        """Whether the machine of a seat tells the rows with a stand."""
        state = led_by(self.ways[seat], stand[1][seat], self.spelled(stand[2]))
        return self.machines[seat].told[state]

    def reads(self, stand, seat):
        """The right side of a seat's equation at the rows with a stand."""
        is_goal = stand[4] is not None and self.game.goal.told[stand[4]]
        return self.game.reads(is_goal, self.answers_behind(stand, seat))

    def passes(self, stand, seat):
        """Whether the equation of a seat holds at the rows with a stand."""
        return self.is_told(stand, seat) == self.reads(stand, seat)

    def failing(self, stand):
        """The first seat whose equation fails at the rows with a stand, None if none does."""
        for seat in range(len(self.ways)):
            if not self.passes(stand, seat):
                return seat
        return None


def led_by(ways, state, indexes):
    """The state behind signs, given by their indexes, that are read from a state on."""
    for at in indexes:
        state = ways[state][at]
    return state


def are_given(game, machines):
    """Whether any values are Machines, one for each seat."""
    return len(machines) == game.seats and all([isinstance(machine, Machine) for machine in machines])


def are_of_signs(game, machines):
    """Whether machines have the signs of a game, in their order."""
    return all([machine.signs == game.weights.signs for machine in machines])


def check_machines(game, machines):
    """Raise what any values as the machines of a game do not let pass."""
    if not are_given(game, machines):
        raise BadGame("machines")
    if not are_of_signs(game, machines):
        raise OtherSigns("machines")


def are_machines(game, value):
    """Whether any value is a list or tuple of machines that fit a game."""
    return isinstance(value, (list, tuple)) and are_given(game, value) and are_of_signs(game, value)
