"""Judging: what a machine tells of the rows behind the moves from a row."""

from rowgames.standing import states_on
from rowgames.states import led_on


def answers_behind(machine, rules, row, moves):
    """For each move from a row, in their order, whether a machine tells the row behind it."""
    # One by one takes a walk along the row for each move, all at once about half a one for each state.
    if len(moves) <= 6 + len(machine) // 2:
        return answers_one_by_one(machine, rules, row, moves)
    return answers_at_once(machine, rules, row, moves)


def answers_one_by_one(machine, rules, row, moves):
    """The answers behind ascending moves. What is ahead of them is read once."""
    signs = machine.signs
    steps = machine.steps
    told = machine.told
    state = 0
    read = 0
    answers = []
    for place, index in moves:
        if place > read:
            state = led_on(signs, steps, state, row[read:place])
            read = place
        rule = rules[index]
        behind = led_on(signs, steps, state, rule.new + row[place + len(rule.old):])
        answers.append(told[behind])
    return answers


def answers_at_once(machine, rules, row, moves):
    """The answers behind moves. What is ahead of them is read once, what is behind them once for each state."""
    signs = machine.signs
    steps = machine.steps
    indexes = [signs.index(sign) for sign in row]
    path = states_on(steps, indexes)
    endings = answers_of_endings(steps, machine.told, indexes)
    puts = [[signs.index(sign) for sign in rule.new] for rule in rules]
    lefts = [len(row) - len(rule.old) for rule in rules]
    answers = []
    for place, index in moves:
        state = path[place]
        for at in puts[index]:
            state = steps[state][at]
        answers.append(endings[lefts[index] - place][state])
    return answers


def answers_of_endings(steps, told, indexes):
    """For each ending of a row, the empty one first: by states, whether it leads from there to a told one."""
    columns = list(zip(*steps))
    answers = told
    found = [answers]
    for at in indexes[::-1]:
        answers = [answers[led] for led in columns[at]]
        found.append(answers)
    return found
