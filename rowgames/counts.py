"""Counts: how many rows a machine tells, and at which places they stand in their order.

Told rows are in order by length, then by the signs in order.
"""

from rowgames.counting import endings_of, none_left, one_more, text_at, told_far_off
from rowgames.errors import BadNumber, TooMany
from rowgames.letters import check_row, is_from_to
from rowgames.states import smallest

LONGEST = 1000


def count(machine, n):
    """How many rows of n signs a machine tells."""
    if not is_from_to(n, 0, LONGEST):
        raise BadNumber("n")
    steps, told = smallest(machine.steps, machine.told)
    return endings_of(steps, told, n)[n][0]


def remainder(machine, n, modulus):
    """How many rows of n signs a machine tells, modulo a number."""
    if not is_from_to(n, 0, 10 ** 18):
        raise BadNumber("n")
    if not is_from_to(modulus, 1, 10 ** 9):
        raise BadNumber("modulus")
    steps, told = smallest(machine.steps, machine.told)
    return told_far_off(steps, told, n, modulus)


def place_of(machine, row):
    """How many told rows are ahead of a row, told or not."""
    check_row(machine.signs, row)
    if len(row) > LONGEST:
        raise BadNumber("length")
    steps, told = smallest(machine.steps, machine.told)
    endings = endings_of(steps, told, len(row))
    ahead = sum([endings[length][0] for length in range(len(row))])
    state = 0
    for place, sign in enumerate(row):
        at = machine.signs.index(sign)
        left = len(row) - place - 1
        ahead = ahead + sum([endings[left][led] for led in steps[state][:at]])
        state = steps[state][at]
    return ahead


def row_at(machine, k):
    """The told row with just k told rows ahead of it, None if there are not so many."""
    if not is_from_to(k, 0, 10 ** 60):
        raise BadNumber("k")
    steps, told = smallest(machine.steps, machine.told)
    endings = [none_left(told)]
    many_empty = 0
    while k >= endings[-1][0]:
        k = k - endings[-1][0]
        many_empty = many_empty + 1 if endings[-1][0] == 0 else 0
        # A longer told row, without some circles of states, would have one of these lengths.
        if many_empty == len(steps):
            return None
        if len(endings) > LONGEST:
            raise TooMany("signs", LONGEST)
        endings.append(one_more(steps, endings[-1]))
    return text_at(machine.signs, steps, endings, len(endings) - 1, k)
