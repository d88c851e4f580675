"""Surveying: going from stand to stand by numbers alone.

A code is a tuple of seven numbers: that of the end of the rows (fresh and tail), for two seats the
state of the machine ahead of the tail, for two seats the set of states behind their moves, the
state of the goal, and that of a further machine, among. What is not there counts as a machine of
one state, and as a seat without moves. A set of states is a number with a binary figure 1 for each
of them. What comes of sets and of ends is found once and kept.
"""

from rowgames.errors import TooMany
from rowgames.standing import led_by

FIRST = (0, 0, 0, 0, 0, 0, 0)


class Survey:
    """The stands of a game and its machines, each with a state of a further machine, by their codes."""

    def __init__(self, ends, game, machines, among):
        self.ends = ends
        self.game = game
        self.machines = machines
        self.many = len(ends.letters)
        still = [[0] * self.many]
        self.ways = [machine.steps for machine in machines]
        self.ways_two = self.ways[1] if len(machines) == 2 else still
        self.goal_ways = still if game.goal is None else game.goal.steps
        self.among_ways = still if among is None else among.steps
        self.led_one = {0: still[0]}
        self.led_two = {0: still[0]}
        self.put_sets = {}

    def put_on(self, end, one, two):
        """For two seats the sets that are put on at an end ahead of which the machines are in these states."""
        sets = [0, 0]
        for seat, indexes in self.ends.loose[end]:
            judge = self.game.judges[seat]
            ahead = one if judge == 0 else two
            sets[seat] = sets[seat] | (1 << led_by(self.ways[judge], ahead, indexes))
        self.put_sets[(end, one, two)] = sets
        return sets

    def moved_on(self, led, seat, moved):
        """The sets behind a set of a seat by each sign, which were not asked for before."""
        ways = self.ways[self.game.judges[seat]]
        states = states_of(moved)
        led[moved] = [set_of([ways[state][at] for state in states]) for at in range(self.many)]
        return led[moved]

    def behind(self, code):
        """The codes behind a code by each sign."""
        end, one, two, moved_one, moved_two, goal, state = code
        ends = self.ends
        tail = ends.tails[end]
        if ends.tail_length == 0:
            return self.behind_bare(code)
        if len(tail) == ends.tail_length:
            one = self.ways[0][one][tail[0]]
            two = self.ways_two[two][tail[0]]
        onward = ends.onward[end] or ends.behind(end)
        ones = self.led_one.get(moved_one) or self.moved_on(self.led_one, 0, moved_one)
        twos = self.led_two.get(moved_two) or self.moved_on(self.led_two, 1, moved_two)
        found = []
        for further, a, b, led, to in zip(onward, ones, twos, self.goal_ways[goal], self.among_ways[state]):
            if ends.loose[further]:
                put_one, put_two = self.put_sets.get((further, one, two)) or self.put_on(further, one, two)
                found.append((further, one, two, a | put_one, b | put_two, led, to))
            else:
                found.append((further, one, two, a, b, led, to))
        return found

    def behind_bare(self, code):
        """The same without any rule: no sign is kept in a tail, each one goes on in the machines at once."""
        end, one, two, _, _, goal, state = code
        return [(further, a, b, 0, 0, led, to) for further, a, b, led, to in zip(
            self.ends.onward[end] or self.ends.behind(end), self.ways[0][one], self.ways_two[two],
            self.goal_ways[goal], self.among_ways[state])]

    def is_told(self, code, seat):
        """Whether the machine of a seat tells the rows of a code."""
        return self.machines[seat].told[led_by(self.ways[seat], code[1 + seat], self.ends.tails[code[0]])]

    def moved(self, code, seat):
        """The set of the states behind all moves of a seat."""
        found = code[3 + seat]
        judge = self.game.judges[seat]
        for other, indexes in self.ends.bound[code[0]]:
            if other == seat:
                found = found | (1 << led_by(self.ways[judge], code[1 + judge], indexes))
        return found

    def stand_of_code(self, code):
        """The stand of a code."""
        fresh, tail = self.ends.met[code[0]]
        many = len(self.machines)
        moved = tuple([states_of(states) for states in code[3:3 + many]])
        return (fresh, code[1:1 + many], tail, moved, None if self.game.goal is None else code[5])


class Readings:
    """The right side of the equation at codes: it goes by the goal and by which answers there are."""

    def __init__(self, survey, equation):
        self.survey = survey
        self.equation = equation
        game = survey.game
        self.goals = [False] if game.goal is None else game.goal.told
        told = [survey.machines[judge].told for judge in game.judges]
        self.yes_sets = [told_set(answers, True) for answers in told]
        self.no_sets = [told_set(answers, False) for answers in told]

    def reads(self, code, seat):
        """The right side of a seat's equation at the rows of a code."""
        moved = self.survey.moved(code, seat)
        bare, with_goal = self.equation.read_by((moved & self.no_sets[seat] > 0, moved & self.yes_sets[seat] > 0))
        return with_goal if self.goals[code[5]] else bare

    def failing(self, code):
        """The first seat whose equation fails at the rows of a code, None if none does."""
        for seat in range(len(self.yes_sets)):
            if self.survey.is_told(code, seat) != self.reads(code, seat):
                return seat
        return None


def set_of(states):
    """The set of some states."""
    found = 0
    for state in states:
        found = found | (1 << state)
    return found


def told_set(told, answer):
    """The set of the states that are told, or of those that are not."""
    return set_of([state for state, other in enumerate(told) if other == answer])


def states_of(moved):
    """The states of a set, ascending."""
    states = []
    while moved > 0:
        lowest = moved & -moved
        states.append(lowest.bit_length() - 1)
        moved = moved - lowest
    return tuple(states)


def surveyed(survey, most):
    """All codes, in no promised order, and the steps of the machine whose states they are."""
    codes = [FIRST]
    numbers = {FIRST: 0}
    steps = []
    while len(steps) < len(codes):
        ahead = codes[len(steps)]
        onward = []
        for code in survey.behind(ahead):
            if code not in numbers:
                if len(codes) == most:
                    raise TooMany("stands", most)
                numbers[code] = len(codes)
                codes.append(code)
            onward.append(numbers[code])
        steps.append(onward)
    return codes, steps
