"""Lengths, held against going through lengths one by one."""

import itertools
import math
import random

from rowgames.errors import BadNumber, TooMany
from rowgames.lengths import Lengths, lengths_of
from rowgames.machines import Machine
from helpers import ODD, Case, defaults_of, values_but
from oracle import some_machine
from test_counts import MACHINES

BIG = 10 ** 18


def told(lead, period, answers, n):
    """Whether a length is in a set, by the words of the document."""
    while n >= lead + period:
        n -= period
    return answers[n]


def small():
    """All sets of a lead up to 3 and a period up to 3, and some longer ones, as passed."""
    found = [(lead, period, answers) for lead in range(4) for period in range(1, 4)
             for answers in itertools.product((False, True), repeat=lead + period)]
    rng = random.Random(7)
    for lead, period in ((0, 4), (0, 6), (5, 4), (2, 6), (7, 1), (1, 12), (9, 5)):
        found += [(lead, period, tuple(rng.random() < 0.5 for _ in range(lead + period))) for _ in range(4)]
    return found


SMALL = small()


def primes(at):
    """A set of a period and no lead: just its multiples and, for the odd ones, one more rest."""
    return Lengths(0, at, [n == 0 or at % 2 == 1 and n == 2 for n in range(at)])


class TestKept(Case):
    def test_the_least_period_and_then_the_least_lead(self):
        for lead, period, answers in SMALL:
            found = Lengths(lead, period, answers)
            many = 2 * (lead + period) + 12
            members = [told(lead, period, answers, n) for n in range(many)]
            wanted = min(((later, first) for later in range(1, period + 1) for first in range(lead + 1)
                          if all(members[n] == members[n + later] for n in range(first, many - later))))
            self.same([found.period, found.lead], list(wanted))
            self.same(found.answers, tuple(members[:found.lead + found.period]))
            self.same([n in found for n in range(many)], members)

    def test_lists_and_tuples(self):
        answers = [True, False, False]
        found = Lengths(1, 2, answers)
        answers[0] = False
        self.same([found.lead, found.period, found.answers], [1, 1, (True, False)])
        self.same(answers, [False, False, False])
        self.assertEqual(found, Lengths(1, 2, (True, False, False)))

    def test_wrong_values_in_their_order(self):
        for value in values_but(0, 1, 2, 10 ** 59) + [-1]:
            self.raises(BadNumber("lead"), Lengths, value, None, None)
            self.raises(BadNumber("lead"), Lengths, value, 1, [True])
        for value in values_but(1, 2, 10 ** 59) + [-1, 0]:
            self.raises(BadNumber("period"), Lengths, 0, value, None)
            self.raises(BadNumber("period"), Lengths, 10 ** 59, value, [])
        for value in values_but():
            self.raises(BadNumber("answers"), Lengths, 1, 1, value)
            self.raises(BadNumber("answers"), Lengths, 0, 1, [value] if not isinstance(value, bool) else value)
        for value in ([True], [True] * 3, (True, 1), (0, 1), [None, True], {0: True, 1: False}, "10", [[True], True]):
            self.raises(BadNumber("answers"), Lengths, 1, 1, value)
        self.raises(BadNumber("answers"), Lengths, 10 ** 59, 1, [True])

    def test_six_hundred_in_all(self):
        for lead, period in ((0, 600), (599, 1), (300, 300), (1, 599)):
            answers = [n == lead + period - 1 for n in range(600)]
            found = Lengths(lead, period, answers)
            self.same(len(found.answers) <= 600, True)
            self.same(found.first(), 599)
        for lead, period in ((1, 600), (0, 601), (600, 1), (300, 301)):
            self.raises(BadNumber("answers"), Lengths, lead, period, [True] * 601)
            self.raises(BadNumber("answers"), Lengths, lead, period, [True] * 600)
        self.same(Lengths.LONGEST, 600)

    def test_properties(self):
        for name in ("lead", "period", "answers"):
            self.assertIsInstance(vars(Lengths)[name], property)
        for name in ("__contains__", "__bool__", "__eq__", "__invert__", "__and__", "__or__", "__sub__", "__xor__",
                     "__le__", "first", "up_to", "from_on"):
            self.assertIn(name, vars(Lengths))


class TestAsked(Case):
    def test_any_value_in_it(self):
        full, none = Lengths(0, 1, [True]), Lengths(0, 1, [False])
        for value in values_but(0, 1, 2, 10 ** 59):
            self.same([value in full, value in none], [False, False])
        for value in (0, 1, 599, 600, BIG, 10 ** 59):
            self.same([value in full, value in none], [True, False])
        rare = Lengths(2, 7, [True, False] + [False] * 6 + [True])
        for n in (8, 15, 8 + 7 * 10 ** 58):
            self.same([n - 1 in rare, n in rare, n + 1 in rare], [False, True, False])

    def test_whether_there_is_one(self):
        for lead, period, answers in SMALL:
            found = bool(Lengths(lead, period, answers))
            self.same(found, True in answers)

    def test_equal(self):
        kept = {}
        for one in SMALL[:60:2] + SMALL[-28:]:
            for other in SMALL[::3]:
                equal = all(told(*one, n) == told(*other, n) for n in range(80))
                self.same(Lengths(*one) == Lengths(*other), equal)
                self.same(Lengths(*one) != Lengths(*other), not equal)
                kept[equal] = True
        self.same(len(kept), 2)
        for value in values_but():
            self.same([Lengths(0, 1, [True]) == value, value == Lengths(0, 1, [False])], [False, False])

    def test_first_up_to_and_from_on(self):
        for lead, period, answers in SMALL:
            found = Lengths(lead, period, answers)
            members = [n for n in range(120) if told(lead, period, answers, n)]
            for start in range(30):
                self.same(found.first(start), next((n for n in members if n >= start), None))
                self.same(found.up_to(start), sum(n <= start for n in members))
            self.same(found.first(), next(iter(members), None))
            missing = [n for n in range(120) if n not in members]
            wanted = 0 if not missing else missing[-1] + 1 if missing[-1] < 60 else None
            self.same(found.from_on(), wanted)

    def test_far_off(self):
        rare = Lengths(5, 7, [True] * 4 + [False] * 7 + [True])
        self.same(rare.first(4), 11)
        for n in (BIG, BIG - 1, BIG - 6, BIG - 7):
            self.same(rare.up_to(n), 4 + (n - 11) // 7 + 1)
            self.same(rare.first(n), n + (11 - n) % 7)
        self.same([Lengths(3, 1, [True] * 3 + [False]).first(BIG), Lengths(0, 1, [True]).first(BIG)], [None, BIG])
        self.same([Lengths(0, 1, [True]).up_to(BIG), Lengths(0, 1, [False]).up_to(BIG)], [BIG + 1, 0])

    def test_wrong_numbers(self):
        found = Lengths(0, 2, [True, False])
        for value in values_but(0, 1, 2) + [-1, BIG + 1]:
            self.raises(BadNumber("start"), found.first, value)
            self.raises(BadNumber("n"), found.up_to, value)


class TestOperators(Case):
    def results(self, one, other):
        return [(~one, lambda a, b: not a), (one & other, lambda a, b: a and b), (one | other, lambda a, b: a or b),
                (one - other, lambda a, b: a and not b), (one ^ other, lambda a, b: a != b)]

    def test_each_length(self):
        for one in SMALL[::4] + SMALL[-14:]:
            for other in SMALL[::5] + SMALL[-9:]:
                left, right = Lengths(*one), Lengths(*other)
                many = max(one[0], other[0]) + 2 * math.lcm(one[1], other[1])
                for found, asked in self.results(left, right):
                    self.assertIs(type(found), Lengths)
                    members = [asked(told(*one, n), told(*other, n)) for n in range(many)]
                    self.same([n in found for n in range(many)], members)
                    self.assertEqual(found, Lengths(max(one[0], other[0]), math.lcm(one[1], other[1]), members[:max(one[0], other[0]) + math.lcm(one[1], other[1])]))
                below = all(told(*other, n) for n in range(many) if told(*one, n))
                self.same(left <= right, below)
                self.same(right >= left, below)

    def test_in_place(self):
        one = same_one = Lengths(0, 2, [True, False])
        one &= Lengths(0, 3, [True, False, False])
        self.assertEqual(one, Lengths(0, 6, [True] + [False] * 5))
        self.assertEqual(same_one, Lengths(0, 2, [True, False]))

    def test_too_many_exactly_if_the_kept_result_is(self):
        two, three = primes(2), primes(3)
        for at, fits in ((300, True), (299, True), (301, False), (400, True), (200, True)):
            other = primes(at)
            lcm = math.lcm(2, at)
            if lcm <= 600:
                self.same(len((two & other).answers) <= 600, True)
            else:
                self.raises(TooMany("lengths", 600), lambda: two & other)
        self.same((two & primes(299)).period, 598)
        self.raises(TooMany("lengths", 600), lambda: two & primes(301))
        self.raises(TooMany("lengths", 600), lambda: two ^ primes(301))
        self.raises(TooMany("lengths", 600), lambda: three - primes(599))
        self.raises(TooMany("lengths", 600), lambda: Lengths(0, 25, [True] + [False] * 24) | Lengths(0, 27, [True] + [False] * 26))

    def test_long_rings_with_a_short_kept_result(self):
        one, other = Lengths(0, 599, [n > 0 for n in range(599)]), Lengths(0, 593, [n > 0 for n in range(593)])
        none, full = Lengths(0, 1, [False]), Lengths(0, 1, [True])
        self.assertEqual([one & none, one | full, one ^ one, one - one, other - full], [none, full, none, none, none])
        self.raises(TooMany("lengths", 600), lambda: one & other)
        self.same([one <= other, one <= full, none <= one, full <= one], [False, True, True, False])
        # Both are even lengths from some length on: their common ring is long, what is kept is short.
        left = Lengths(0, 598, [n % 2 == 0 for n in range(598)])
        self.same([left.lead, left.period], [0, 2])

    def test_lead_and_period_together(self):
        early = Lengths(301, 1, [False] * 300 + [True, False])
        self.same([early.lead, early.period], [301, 1])
        self.same(len((early | primes(299)).answers), 600)
        self.raises(TooMany("lengths", 600), lambda: early | Lengths(0, 300, [n == 7 for n in range(300)]))
        late = Lengths(599, 1, [n == 598 for n in range(600)])
        self.same((late & Lengths(0, 2, [True, False])).answers[-2:], (True, False))
        self.raises(TooMany("lengths", 600), lambda: late | Lengths(0, 2, [False, True]))
        self.assertEqual(late & Lengths(0, 2, [False, True]), Lengths(0, 1, [False]))
        self.same(~(~late) == late, True)

    def test_nothing_changes(self):
        one, other = Lengths(2, 3, [True, False, True, True, False]), Lengths(0, 2, [True, False])
        before = [one.lead, one.period, one.answers, other.lead, other.period, other.answers]
        for _ in self.results(one, other):
            pass
        self.same([one.lead, one.period, one.answers, other.lead, other.period, other.answers], before)


def sets_of(machine):
    """The sets of states in which the rows of a length end, up to the first one that comes again, and its place."""
    sets = [{0}]
    while sets[-1] not in sets[:-1]:
        sets.append({machine.steps[state][at] for state in sets[-1] for at in range(len(machine.signs))})
    return sets[:-1], sets.index(sets[-1])


class TestLengthsOf(Case):
    def machines(self):
        return MACHINES + [some_machine(signs, states, seed) for signs in ("x", "xo", "abcd") for states in (4, 7)
                           for seed in range(6)]

    def test_some_and_every_row(self):
        seen = []
        for machine in self.machines():
            sets, lead = sets_of(machine)
            for every, asked in ((False, any), (True, all)):
                found = lengths_of(machine, every=every)
                answers = [asked(machine.told[state] for state in one) for one in sets]
                self.assertEqual(found, Lengths(lead, len(sets) - lead, answers))
                self.same(lengths_of(machine, every=every, most=len(sets)) == found, True)
                if len(sets) > 1:
                    self.raises(TooMany("sets", len(sets) - 1), lengths_of, machine, every=every, most=len(sets) - 1)
                seen.append((every, bool(found), found.from_on() is None))
        self.same(len(set(seen)), 6)

    def test_what_is_not_told(self):
        self.same(defaults_of(lengths_of), {"every": False, "most": 2000})

    def test_rows_of_each_length(self):
        for machine in self.machines()[:12]:
            some, every = lengths_of(machine), lengths_of(machine, every=True)
            for n in range(7 if len(machine.signs) < 3 else 5):
                told_rows = [machine["".join(row)] for row in itertools.product(machine.signs, repeat=n)]
                self.same([n in some, n in every], [any(told_rows), all(told_rows)])

    def test_some_row_is_what_is_asked_for(self):
        self.assertEqual(lengths_of(ODD), Lengths(1, 1, [False, True]))
        self.assertEqual(lengths_of(ODD, every=True), Lengths(0, 1, [False]))

    def test_the_states_as_they_are(self):
        wide = Machine("x", [[at + 1] for at in range(9)] + [[0]], [True] * 10)
        self.same(lengths_of(wide, most=10).answers, (True,))
        self.raises(TooMany("sets", 9), lengths_of, wide, most=9)

    def test_too_many(self):
        # The first sign tells into which ring of states a row goes.
        rings = [[0] * 3, *[[1 + (at + 1) % 25] * 3 for at in range(25)], *[[26 + (at + 1) % 27] * 3 for at in range(27)]]
        wide = Machine("xoz", [[1, 26, 53]] + rings[1:] + [[53] * 3],
                       [True] + [at == 0 for at in range(25)] + [at == 0 for at in range(27)] + [False])
        self.raises(TooMany("sets", 675), lengths_of, wide, most=675)
        self.raises(TooMany("lengths", 600), lengths_of, wide, most=676)
        self.raises(TooMany("lengths", 600), lengths_of, wide)
        self.same(lengths_of(wide, every=True).answers, (True, False))
