"""Lengths: sets of lengths that come again and again from some length on."""

from rowgames.errors import BadNumber, TooMany
from rowgames.letters import is_from_to, is_natural
from rowgames.machines import are_answers
from rowgames.rings import (both_marked, just_one_marked, kept_ring, marks_of, not_marked, one_marked, side_by_side,
                            spot_of)


class Lengths:
    """A lead, a period, and for each length below both together whether it is in the set.

    It is kept as marks "0" and "1" of the lengths.
    """

    LONGEST = 600

    def __init__(self, lead, period, answers):
        if not is_natural(lead):
            raise BadNumber("lead")
        if not is_natural(period) or period == 0:
            raise BadNumber("period")
        if lead + period > Lengths.LONGEST or not are_answers(answers, lead + period):
            raise BadNumber("answers")
        self._lead, self._marks = kept_ring(lead, marks_of(answers))

    @property
    def lead(self):
        """From which length on the lengths come again and again."""
        return self._lead

    @property
    def period(self):
        """Behind how many lengths they come again."""
        return len(self._marks) - self._lead

    @property
    def answers(self):
        """For each length below lead and period together whether it is in the set."""
        return tuple([mark == "1" for mark in self._marks])

    def __contains__(self, x):
        return is_natural(x) and self._marks[spot_of(self._lead, len(self._marks), x)] == "1"

    def __bool__(self):
        return "1" in self._marks

    def __eq__(self, other):
        return isinstance(other, Lengths) and self._lead == other._lead and self._marks == other._marks

    def __invert__(self):
        return kept_lengths(self._lead, not_marked(self._marks))

    def __and__(self, other):
        lead, one, two = side_by_side(self._lead, self._marks, other._lead, other._marks)
        return kept_lengths(lead, both_marked(one, two))

    def __or__(self, other):
        lead, one, two = side_by_side(self._lead, self._marks, other._lead, other._marks)
        return kept_lengths(lead, one_marked(one, two))

    def __sub__(self, other):
        lead, one, two = side_by_side(self._lead, self._marks, other._lead, other._marks)
        return kept_lengths(lead, both_marked(one, not_marked(two)))

    def __xor__(self, other):
        lead, one, two = side_by_side(self._lead, self._marks, other._lead, other._marks)
        return kept_lengths(lead, just_one_marked(one, two))

    def __le__(self, other):
        _, one, two = side_by_side(self._lead, self._marks, other._lead, other._marks)
        return both_marked(one, two) == one

    def first(self, start=0):
        """The least length in the set that is not below start, None if there is none."""
        if not is_from_to(start, 0, 10 ** 18):
            raise BadNumber("start")
        spot = spot_of(self._lead, len(self._marks), start)
        # Behind its spot come all marks that are still to come, if one period is put behind them.
        found = (self._marks + self._marks[self._lead:]).find("1", spot)
        if found < 0:
            return None
        return start + found - spot

    def up_to(self, n):
        """How many lengths in the set are at most n."""
        if not is_from_to(n, 0, 10 ** 18):
            raise BadNumber("n")
        ring = self._marks[self._lead:]
        rounds, rest = divmod(max(0, n + 1 - self._lead), len(ring))
        ahead = self._marks[:self._lead][:n + 1]
        return ahead.count("1") + rounds * ring.count("1") + ring[:rest].count("1")

    def from_on(self):
        """The least n such that each length from n on is in the set, None if there is none."""
        if self._marks[self._lead:] != "1":
            return None
        return self._lead


def kept_lengths(lead, marks):
    """The Lengths with these marks; raises TooMany if their kept form is too long."""
    lead, marks = kept_ring(lead, marks)
    if len(marks) > Lengths.LONGEST:
        raise TooMany("lengths", Lengths.LONGEST)
    return Lengths(lead, len(marks) - lead, [mark == "1" for mark in marks])


def lengths_of(machine, *, every=False, most=2000):
    """The lengths of which a machine tells some row, or with every those of which it tells each row."""
    sets, lead = sets_by_length(machine.steps, most)
    told = set_of([state for state, answer in enumerate(machine.told) if answer])
    if every:
        return kept_lengths(lead, marks_of([(inside & told) == inside for inside in sets]))
    return kept_lengths(lead, marks_of([(inside & told) > 0 for inside in sets]))


def sets_by_length(steps, most):
    """The sets of states in which the rows of 0, 1 and so on signs end, and which comes again behind them.

    A set is a number with a binary figure 1 for each state that is in it.
    """
    ahead = [set_of(onward) for onward in steps]
    numbers = {}
    inside = set_of([0])
    while inside not in numbers:
        if len(numbers) == most:
            raise TooMany("sets", most)
        numbers[inside] = len(numbers)
        behind = 0
        for state, led_to in enumerate(ahead):
            if (inside >> state) % 2 == 1:
                behind = behind | led_to
        inside = behind
    return list(numbers), numbers[inside]


def set_of(states):
    """The set of some states."""
    found = 0
    for state in states:
        found = found | (1 << state)
    return found
