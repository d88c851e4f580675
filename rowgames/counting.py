"""Counting: how many texts lead from the states of a machine to told ones."""


def none_left(told):
    """For each state how many texts of no sign lead from it to a told one."""
    return [1 if answer else 0 for answer in told]


def one_more(steps, nearer):
    """How many texts of one sign more lead from each state to a told one."""
    return [sum([nearer[led] for led in onward]) for onward in steps]


def endings_of(steps, told, length):
    """For each number of signs from 0 to length: how many texts lead from each state to a told one."""
    endings = [none_left(told)]
    for left in range(length):
        endings.append(one_more(steps, endings[left]))
    return endings


def text_at(signs, steps, endings, length, place):
    """The text of so many signs, from the state 0 on, with so many told ones ahead of it."""
    state = 0
    text = []
    for left in range(length - 1, -1, -1):
        at = 0
        while place >= endings[left][steps[state][at]]:
            place = place - endings[left][steps[state][at]]
            at = at + 1
        text.append(signs[at])
        state = steps[state][at]
    return "".join(text)


def told_far_off(steps, told, n, modulus):
    """How many texts of n signs lead from the state 0 to a told one, modulo a number.

    With S states, the number for k + S signs is a sum of those for k to k + S - 1 signs, with the
    same factors for every k. So let x to the power S be the sum of the lower powers with these
    factors: what x to the power n is then, the number for n signs is of those for 0 to S - 1.
    """
    back = recurrence(steps)
    power = [1] + [0] * (len(back) - 1)
    for figure in f"{n:b}":
        power = product(power, power, back, modulus)
        if figure == "1":
            power = times_x(power, back, modulus)
    endings = endings_of(steps, told, len(back) - 1)
    return sum([factor * counts[0] for factor, counts in zip(power, endings)]) % modulus


def recurrence(steps):
    """The factors by which the number for k + S signs goes by those for k, k + 1 and so on.

    They are the coefficients of the characteristic polynomial of the steps, taken from 0, which
    come by the way of Faddeev and LeVerrier. All divisions there leave no rest.
    """
    many = len(steps)
    table = [[0] * many for _ in range(many)]
    coefficients = [1]
    for number in range(1, many + 1):
        for at in range(many):
            table[at][at] = table[at][at] + coefficients[-1]
        table = [summed([table[led] for led in onward]) for onward in steps]
        coefficients.append(-sum([table[at][at] for at in range(many)]) // number)
    return [-coefficient for coefficient in coefficients[:0:-1]]


def summed(rows):
    """The sums of the numbers that stand at the same places."""
    return [sum(column) for column in zip(*rows)]


def times_x(power, back, modulus):
    """A sum of powers of x, by their factors, times x."""
    top = power[-1]
    return [(low + top * factor) % modulus for low, factor in zip([0] + power[:-1], back)]


def product(one, other, back, modulus):
    """The product of two sums of powers of x, by their factors."""
    found = [0] * len(back)
    for number in one[::-1]:
        top = found[-1]
        found = [(low + top * factor + number * further) % modulus
                 for low, factor, further in zip([0] + found[:-1], back, other)]
    return found
