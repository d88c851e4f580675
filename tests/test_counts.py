"""Counts, held against going through all rows, and against numbers that are known."""

import itertools
import math

from rowgames.counts import count, place_of, remainder, row_at
from rowgames.errors import BadNumber, BadRow, TooMany
from rowgames.machines import Machine
from helpers import ODD, Case, same, values_but
from oracle import GOAL, some_machine

BIG = 10 ** 18


def machines():
    """Machines of one to four signs: of one state, with states that no row leads to, of few told rows."""
    found = [Machine.every("x"), Machine.none("x"), Machine.every("xo"), Machine.none("xo"), ODD, GOAL,
             Machine.just("xo", "", "ox", "oxo"), Machine.having("ox", "xox"), Machine.counting("abcd", "c", 2),
             Machine.modulo("bac", "a", 5, 3), Machine("xo", ((0, 0), (0, 1)), (False, True)),
             Machine("xo", ((1, 2), (1, 1), (2, 0), (3, 1)), (False, False, True, True))]
    found += [some_machine(signs, states, states) for signs in ("x", "ox", "bac", "dcba") for states in (2, 3, 5)]
    return found


MACHINES = machines()


def told_rows(machine, length):
    """All told rows up to a length, by length and then by the signs in order."""
    rows = ["".join(row) for many in range(length + 1) for row in itertools.product(machine.signs, repeat=many)]
    return [row for row in rows if machine[row]]


def length_for(machine):
    return {1: 12, 2: 8, 3: 5, 4: 4}[len(machine.signs)]


class TestCount(Case):
    def test_all_rows_of_a_length(self):
        for machine in MACHINES:
            rows = told_rows(machine, length_for(machine))
            for n in range(length_for(machine) + 1):
                self.same(count(machine, n), sum(len(row) == n for row in rows))

    def test_long_rows(self):
        for n in (0, 1, 59, 999, 1000):
            self.same(count(Machine.every("abcd"), n), 4 ** n)
            self.same(count(Machine.none("abc"), n), 0)
            self.same(count(ODD, n), 2 ** (n - 1) if n else 0)
            for many in (0, 1, 7, 60):
                self.same(count(Machine.counting("xoz", "o", many), n), math.comb(n, many) * 2 ** (n - many) if n >= many else 0)
            self.same(count(Machine.modulo("xo", "x", 60, 59), n), sum(math.comb(n, many) for many in range(59, n + 1, 60)))
        ahead, far = 1, 1
        for n in range(2, 1000):
            ahead, far = far, ahead + far
        self.same(count(~Machine.having("xo", "xx"), 998), far)

    def test_wrong_numbers(self):
        for value in values_but(0, 1, 2) + [1001, -1, 10 ** 18]:
            self.raises(BadNumber("n"), count, ODD, value)
        self.same(count(Machine.every("x"), 1000), 1)


class TestRemainder(Case):
    def test_against_count(self):
        for machine in MACHINES:
            for n in list(range(9)) + [63, 64, 500, 1000]:
                for modulus in (1, 2, 7, 10 ** 9):
                    self.same(remainder(machine, n, modulus), count(machine, n) % modulus)

    def test_far_off(self):
        for n in (BIG, BIG - 1, 10 ** 17 + 3, 2 ** 59):
            for modulus in (1, 2, 7, 10 ** 9, 10 ** 9 - 1, 10 ** 9 + 7 - 10):
                for signs in ("x", "xo", "xoz", "abcd"):
                    self.same(remainder(Machine.every(signs), n, modulus), pow(len(signs), n, modulus))
                    self.same(remainder(Machine.none(signs), n, modulus), 0)
                for many in (0, 1, 2, 5):
                    wanted = math.comb(n, many) * pow(3, n - many, modulus) % modulus
                    self.same(remainder(Machine.counting("abcd", "c", many), n, modulus), wanted)
                self.same(remainder(ODD, n, modulus), pow(2, n - 1, modulus))

    def test_a_rest(self):
        for n in (BIG, BIG - 1, BIG - 2):
            # Of n signs x and o the number of x leaves 0 modulo 4 in 2 ** (n - 2) + re((1 + i) ** n) / 2 cases.
            turn = [1, 1, 0, -1, -1, -1, 0, 1][n % 8]
            modulus = 10 ** 9 - 1
            power = pow(2, n // 2 - (0 if n % 2 else 1), modulus)
            wanted = (pow(2, n - 2, modulus) + turn * power) % modulus
            if n % 2:
                wanted = (pow(2, n - 2, modulus) + turn * pow(2, (n - 1) // 2 - 1, modulus)) % modulus
            self.same(remainder(Machine.modulo("xo", "x", 4), n, modulus), wanted)
            self.same(remainder(Machine.modulo("x", "x", 16, n % 16), n, 5), 1)
            self.same(remainder(Machine.modulo("x", "x", 16, (n + 1) % 16), n, 5), 0)

    def test_sixteen_states(self):
        machine = some_machine("xo", 16, 3) | Machine.modulo("xo", "o", 2)
        self.same(remainder(machine, 1000, 10 ** 9), count(machine, 1000) % 10 ** 9)

    def test_wrong_numbers(self):
        for value in values_but(0, 1, 2) + [BIG + 1, -1, 10 ** 59]:
            self.raises(BadNumber("n"), remainder, ODD, value, None)
            self.raises(BadNumber("n"), remainder, ODD, value, 7)
        for value in values_but(1, 2) + [10 ** 9 + 1, 0, -1, BIG]:
            self.raises(BadNumber("modulus"), remainder, ODD, 5, value)
            self.raises(BadNumber("n"), remainder, ODD, BIG + 1, value)
        self.same([remainder(ODD, BIG, 1), remainder(ODD, 3, 10 ** 9), remainder(ODD, 0, 7)], [0, 4, 0])


class TestPlaces(Case):
    def test_told_rows_in_order(self):
        for machine in MACHINES:
            length = length_for(machine)
            rows = told_rows(machine, length)
            for at, row in enumerate(rows):
                self.same(row_at(machine, at), row)
                self.same(place_of(machine, row), at)
            for row in ("".join(row) for row in itertools.product(machine.signs, repeat=length - 1)):
                key = (len(row), [machine.signs.index(sign) for sign in row])
                ahead = [one for one in rows if (len(one), [machine.signs.index(sign) for sign in one]) < key]
                self.same(place_of(machine, row), len(ahead))

    def test_no_further_row(self):
        for signs, rows in (("x", []), ("xo", [""]), ("xo", ["", "ox", "oxo"]), ("abcd", ["d" * 60, "a"])):
            machine = Machine.just(signs, *rows)
            self.same([row_at(machine, len(rows)), row_at(machine, len(rows) + 1), row_at(machine, 10 ** 60)], [None] * 3)
            wanted = sorted(rows, key=len)
            self.same([row_at(machine, at) for at in range(len(rows))], wanted)
        full = Machine("x", [[at + 1] for at in range(63)] + [[63]], [False] * 62 + [True, False])
        self.same([row_at(full, 0), row_at(full, 1)], ["x" * 62, None])

    def test_numbers_of_sixty_figures(self):
        numbers = [10 ** 60, 10 ** 60 - 1, 10 ** 59, 123456789 * 10 ** 40 + 17]
        for machine in MACHINES:
            for number in numbers:
                if count(machine, 1000) > 10 ** 60:
                    row = row_at(machine, number)
                    self.same([machine[row], place_of(machine, row)], [True, number])
        row = row_at(Machine.every("xo"), 10 ** 60)
        self.same(row, bin(10 ** 60 + 1)[3:].replace("0", "x").replace("1", "o"))

    def test_rows_of_a_thousand_signs(self):
        every = Machine.every("x")
        self.same([row_at(every, 1000), place_of(every, "x" * 1000)], ["x" * 1000, 1000])
        self.raises(TooMany("signs", 1000), row_at, every, 1001)
        self.raises(TooMany("signs", 1000), row_at, every, 10 ** 60)
        even = Machine.modulo("x", "x", 2)
        self.same(row_at(even, 500), "x" * 1000)
        self.raises(TooMany("signs", 1000), row_at, even, 501)
        thin = Machine.modulo("x", "x", 60, 59)
        self.same(row_at(thin, 15), "x" * 959)
        self.raises(TooMany("signs", 1000), row_at, thin, 16)
        late = Machine.having("xo", "x" * 60) & Machine.counting("xo", "o", 0)
        self.same(row_at(late, 940), "x" * 1000)
        self.raises(TooMany("signs", 1000), row_at, late, 941)
        self.same(place_of(Machine.every("xo"), "o" * 1000), 2 ** 1001 - 2)

    def test_a_row_that_is_not_told(self):
        self.same([place_of(Machine.none("xo"), "oxo"), place_of(ODD, ""), place_of(ODD, "o"), place_of(ODD, "oo")], [0, 0, 1, 3])

    def test_wrong_rows(self):
        for value in values_but("", "x", "xo"):
            at = 1 if same(value, "x\n") else 0
            if not isinstance(value, str) or value.strip("xo"):
                self.raises(BadRow(at), place_of, ODD, value)
        self.raises(BadRow(1001), place_of, ODD, "x" * 1001 + "q")
        self.raises(BadNumber("length"), place_of, ODD, "x" * 1001)
        self.raises(BadRow(0), place_of, ODD, "q" * 1001)
        self.same(place_of(Machine.none("xo"), "x" * 1000), 0)

    def test_wrong_numbers(self):
        for value in values_but(0, 1, 2, 10 ** 59) + [10 ** 60 + 1, -1]:
            for machine in (ODD, Machine.none("xo"), Machine.every("x")):
                self.raises(BadNumber("k"), row_at, machine, value)

    def test_the_examples(self):
        even = Machine("xo", [[1, 0], [0, 1]], [True, False])
        one = Machine.counting("xo", "o", 1)
        both = even & one
        self.same([count(even, 3), count(even, 0), count(both, 5), remainder(even, BIG, 7)], [4, 1, 5, 1])
        self.same([row_at(even, k) for k in range(6)], ["", "o", "xx", "oo", "xxo", "xox"])
        self.same([place_of(even, "oxo"), place_of(one, "xx"), row_at(Machine.just("xo", "x"), 1)], [7, 1, None])
