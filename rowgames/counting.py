"""Counting: how many texts lead from the states of a machine to told ones."""


def none_left(told):
    """For each state how many texts of no sign lead from it to a told one."""
    return [1 if answer else 0 for answer in told]


def one_more(steps, nearer):
    """How many texts of one sign more lead from each state to a told one."""
    return [sum([nearer[led] for led in onward]) for onward in steps]


def endings_of(steps, told, length):
    """For each number of signs from 0 to length: how many texts lead from each state to a told one."""
    endings = [none_left(told)]
    for left in range(length):
        endings.append(one_more(steps, endings[left]))
    return endings


def text_at(signs, steps, endings, length, place):
    """The text of so many signs, from the state 0 on, with so many told ones ahead of it."""
    state = 0
    text = []
    for left in range(length - 1, -1, -1):
        at = 0
        while place >= endings[left][steps[state][at]]:
            place = place - endings[left][steps[state][at]]
            at = at + 1
        text.append(signs[at])
        state = steps[state][at]
    return "".join(text)


def told_far_off(steps, told, n, modulus):
    """How many texts of n signs lead from the state 0 to a told one, modulo a number.

    How many ways lead from each state to each other one is squared again and again.
    """
    many = len(steps)
    hops = [[onward.count(state) for state in range(many)] for onward in steps]
    ways = [1] + [0] * (many - 1)
    while n > 0:
        if n % 2 == 1:
            ways = multiplied([ways], hops, modulus)[0]
        n = n // 2
        if n > 0:
            hops = multiplied(hops, hops, modulus)
    return sum([number for number, answer in zip(ways, told) if answer]) % modulus


def multiplied(one, other, modulus):
    """The product of two tables of numbers, modulo a number."""
    columns = [list(column) for column in zip(*other)]
    return [[sum([a * b for a, b in zip(row, column)]) % modulus for column in columns] for row in one]
