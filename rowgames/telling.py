"""Told rows: the rows that lead a machine to its told states."""


def first_told(signs, steps, told):
    """The first told row, by length and then by the signs; None if there is none."""
    order = [0]
    rows = {0: ""}
    at = 0
    while at < len(order):
        state = order[at]
        if told[state]:
            return rows[state]
        for sign, led in zip(signs, steps[state]):
            if led not in rows:
                rows[led] = rows[state] + sign
                order.append(led)
        at = at + 1
    return None


def hopes_of(steps, told, length):
    """For each number of signs from 0 to length: whether so many lead from a state to a told one."""
    hopes = [told]
    for left in range(length):
        nearer = hopes[left]
        hopes.append([any([nearer[led] for led in onward]) for onward in steps])
    return hopes


def first_filling(signs, steps, hopes, state, left):
    """The first text of so many signs that leads from a state with hope to a told one."""
    text = []
    for still in range(left - 1, -1, -1):
        at = [hopes[still][led] for led in steps[state]].index(True)
        text.append(signs[at])
        state = steps[state][at]
    return "".join(text)


def told_behind(signs, steps, hopes, row):
    """The next told row of the same length, None behind the last one."""
    states = [0]
    for sign in row:
        states.append(steps[states[-1]][signs.index(sign)])
    for place in range(len(row) - 1, -1, -1):
        left = len(row) - place - 1
        for at in range(signs.index(row[place]) + 1, len(signs)):
            led = steps[states[place]][at]
            if hopes[left][led]:
                return row[:place] + signs[at] + first_filling(signs, steps, hopes, led, left)
    return None
