"""Surveying: going from stand to stand by numbers alone.

A code is a tuple of five numbers: that of the part of a stand (fresh, back and tail), for two seats
the set of states behind their moves, the state of the goal, and that of a further machine, among.
What is not there counts as a machine of one state, and as a seat without moves. A set of states is
a number with a binary figure 1 for each of them. What comes of a number by each sign is found once
and kept.
"""

from rowgames.errors import TooMany
from rowgames.standing import led_by

FIRST = (0, 0, 0, 0, 0)


class Survey:
    """The stands of a game and its machines, each with a state of a further machine, by their codes."""

    def __init__(self, ends, game, machines, among):
        self.ends = ends
        self.game = game
        self.machines = machines
        self.ways = [machine.steps for machine in machines]
        self.many = len(game.weights.signs)
        still = [[0] * self.many]
        self.goal_ways = still if game.goal is None else game.goal.steps
        self.among_ways = still if among is None else among.steps
        self.led_one = {0: [0] * self.many}
        self.led_two = {0: [0] * self.many}
        # The parts (number of the end, back) by numbers. For each one those behind it, the states
        # of the machines, the sets that are put on for both seats, and those of the right end.
        self.parts = []
        self.numbers = {}
        self.onward = []
        self.states = []
        self.put_one = []
        self.put_two = []
        self.bound = []
        back = (0,) * len(machines)
        self.keep((0, back), back)

    def keep(self, part, states):
        """Gives a new part a number. Behind its rows the machines are in these states."""
        end, back = part
        self.numbers[part] = len(self.parts)
        self.parts.append(part)
        self.onward.append(None)
        self.states.append(states)
        put = [0, 0]
        bound = [0, 0]
        for seat, right, indexes in self.ends.texts[end]:
            judge = self.game.judges[seat]
            sets = bound if right else put
            sets[seat] = sets[seat] | (1 << led_by(self.ways[judge], back[judge], indexes))
        self.put_one.append(put[0])
        self.put_two.append(put[1])
        self.bound.append(bound)

    def parts_behind(self, number):
        """The parts behind a part by each sign, which were not asked for before."""
        ends = self.ends
        numbers = self.numbers
        states = self.states[number]
        end, back = self.parts[number]
        tail = ends.met[end][1]
        longest = ends.tail_length
        if len(tail) == longest and longest > 0:
            back = self.led_on(back, ends.letters.index(tail[0]))
        found = []
        for at, further in enumerate(ends.onward[end] or ends.behind(end)):
            # Without any rule no sign is kept in a tail: each one goes on in the back at once.
            part = (further, back if longest > 0 else self.led_on(back, at))
            if part not in numbers:
                self.keep(part, self.led_on(states, at))
            found.append(numbers[part])
        self.onward[number] = found
        return found

    def led_on(self, states, at):
        """The states of the machines one sign on."""
        return tuple([ways[state][at] for ways, state in zip(self.ways, states)])

    def moved_on(self, led, seat, moved):
        """The sets behind a set of a seat by each sign, which were not asked for before."""
        ways = self.ways[self.game.judges[seat]]
        states = states_of(moved)
        led[moved] = [set_of([ways[state][at] for state in states]) for at in range(self.many)]
        return led[moved]

    def behind(self, code):
        """The codes behind a code by each sign."""
        number, one, two, goal, state = code
        parts = self.onward[number] or self.parts_behind(number)
        ones = self.led_one.get(one) or self.moved_on(self.led_one, 0, one)
        twos = self.led_two.get(two) or self.moved_on(self.led_two, 1, two)
        put_one = self.put_one
        put_two = self.put_two
        return [(part, a | put_one[part], b | put_two[part], led, to) for part, a, b, led, to in zip(
            parts, ones, twos, self.goal_ways[goal], self.among_ways[state])]

    def is_told(self, code, seat):
        """Whether the machine of a seat tells the rows of a code."""
        return self.machines[seat].told[self.states[code[0]][seat]]

    def moved(self, code, seat):
        """The set of the states behind all moves of a seat."""
        return code[1 + seat] | self.bound[code[0]][seat]

    def stand_of_code(self, code):
        """The stand of a code."""
        end, back = self.parts[code[0]]
        fresh, tail = self.ends.met[end]
        moved = tuple([states_of(states) for states in code[1:1 + len(back)]])
        return (fresh, back, tail, moved, None if self.game.goal is None else code[3])


class Readings:
    """The right side of the equation at codes: it goes by the goal and by which answers there are."""

    def __init__(self, survey, equation):
        self.survey = survey
        self.equation = equation
        game = survey.game
        self.goals = [False] if game.goal is None else game.goal.told
        self.told_by_seat = [machine.told for machine in survey.machines]
        self.yes_sets = [told_set(self.told_by_seat[judge], True) for judge in game.judges]
        self.no_sets = [told_set(self.told_by_seat[judge], False) for judge in game.judges]

    def reads(self, code, seat):
        """The right side of a seat's equation at the rows of a code."""
        moved = code[1 + seat] | self.survey.bound[code[0]][seat]
        bare, with_goal = self.equation.read_by((moved & self.no_sets[seat] > 0, moved & self.yes_sets[seat] > 0))
        return with_goal if self.goals[code[3]] else bare

    def failing(self, code):
        """The first seat whose equation fails at the rows of a code, None if none does."""
        states = self.survey.states[code[0]]
        for seat, told in enumerate(self.told_by_seat):
            if told[states[seat]] != self.reads(code, seat):
                return seat
        return None


def set_of(states):
    """The set of some states."""
    found = 0
    for state in states:
        found = found | (1 << state)
    return found


def told_set(told, answer):
    """The set of the states that are told, or of those that are not."""
    return set_of([state for state, other in enumerate(told) if other == answer])


def states_of(moved):
    """The states of a set, ascending."""
    states = []
    while moved > 0:
        lowest = moved & -moved
        states.append(lowest.bit_length() - 1)
        moved = moved - lowest
    return tuple(states)


def surveyed(survey, most):
    """All codes, in no promised order, and the steps of the machine whose states they are."""
    codes = [FIRST]
    numbers = {FIRST: 0}
    steps = []
    while len(steps) < len(codes):
        ahead = codes[len(steps)]
        onward = []
        for code in survey.behind(ahead):
            if code not in numbers:
                if len(codes) == most:
                    raise TooMany("stands", most)
                numbers[code] = len(codes)
                codes.append(code)
            onward.append(numbers[code])
        steps.append(onward)
    return codes, steps
