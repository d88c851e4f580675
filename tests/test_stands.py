"""Stands, held against their definition and against going through all rows."""

import itertools

from rowgames.books import Book
from rowgames.errors import BadRow, BadSeat, BadSigns, TooMany
from rowgames.games import Every, Shared, Sides, Some
from rowgames.machines import Machine
from rowgames.rules import Rule
from rowgames.signs import Weights
from rowgames.stands import next_stand, passes, stand_at, stands
from helpers import FLIP, ODD, SHARED, XO, Case, odd_values, values_but
from oracle import (all_games, first_rows, holds, machines_of, rows_up_to, small_games, some_machine, stand_of)


def told_cases():
    """Games with machines that look arbitrary, as a list or as a tuple."""
    cases = []
    for at, game in enumerate(all_games() + small_games()):
        cases.append((game, machines_of(game, 2, at)))
        cases.append((game, list(machines_of(game, 3, at))))
    return cases


def rows_for(game):
    """Rows of all signs that are shorter than, as long as and longer than the longest old stretch."""
    return rows_up_to(game.weights, {1: 8, 2: 6, 3: 5, 4: 5}[len(game.weights)])


class TestStandAt(Case):
    def test_against_the_definition(self):
        for game, machines in told_cases():
            for row in rows_for(game):
                self.same(stand_at(game, machines, row), stand_of(game, machines, row))

    def test_old_stretches_of_one_to_four_signs(self):
        for size in range(1, 5):
            for left, right in itertools.product((False, True), repeat=2):
                for old in ("x" * size, ("xo" * 2)[:size]):
                    for new in ("", "o", "oo"):
                        game = Shared(Book(XO, Rule(old, new, left=left, right=right)))
                        machines = [some_machine("xo", 3, size)]
                        for row in rows_up_to(XO, 6):
                            self.same(stand_at(game, machines, row), stand_of(game, machines, row))

    def test_parts(self):
        self.same(stand_at(SHARED, [ODD], ""), (True, (0,), "", ((),), None))
        self.same(stand_at(SHARED, (ODD,), "x"), (True, (0,), "x", ((0,),), None))
        self.same(stand_at(SHARED, [ODD], "xx"), (False, (1,), "x", ((1,),), None))
        self.same(stand_at(Some(FLIP, ODD), [~ODD], "xox"), (False, (1,), "x", ((1,),), 0))
        self.same(stand_at(Sides(FLIP, Book(XO)), [ODD, Machine.counting("xo", "x", 1)], "xx"),
                  (False, (1, 1), "x", ((1,), ()), None))
        self.same(stand_at(Shared(Book(XO)), [ODD], ""), (True, (0,), "", ((),), None))
        self.same(stand_at(Shared(Book(XO)), [ODD], "xxx"), (False, (1,), "", ((),), None))

    def test_the_other_seat_judges_in_sides(self):
        mod = Machine.modulo("xo", "x", 3)
        self.same(stand_at(Sides(FLIP, FLIP), [Machine.every("xo"), mod], "xxx"), (False, (0, 2), "x", ((2,), (0,)), None))

    def test_rules_of_the_ends(self):
        left = Shared(Book(XO, Rule("xx", "o", left=True)))
        self.same([stand_at(left, [ODD], row)[3] for row in ("xx", "xxx", "oxx", "xxo")], [((0,),), ((1,),), ((),), ((0,),)])
        right = Shared(Book(XO, Rule("xx", "o", right=True)))
        self.same([stand_at(right, [ODD], row)[3] for row in ("xx", "oxx")], [((),), ((),)])

    def test_states_are_ascending(self):
        game = Shared(Book(XO, Rule("x", "o"), Rule("x", ""), Rule("x", "oo")))
        machine = Machine.modulo("xo", "o", 5)
        self.same(stand_at(game, [machine], "xooox")[3], ((0, 3, 4),))

    def test_errors(self):
        for value in odd_values():
            if not isinstance(value, str):
                self.raises(BadRow(0), stand_at, SHARED, [ODD], value)
        self.raises(BadRow(2), stand_at, SHARED, [ODD], "xoq")
        self.raises(BadRow(0), stand_at, SHARED, [ODD], "X")

    def test_long_rows(self):
        self.same(stand_at(SHARED, [ODD], "xo" * 500), (False, (0,), "o", ((1,),), None))

    def test_by_names(self):
        self.same(stand_at(row="x", machines=[ODD], game=SHARED), stand_at(SHARED, [ODD], "x"))


class TestNextStand(Case):
    def test_against_the_longer_row(self):
        for game, machines in told_cases():
            for row in rows_for(game)[::2]:
                stand = stand_of(game, machines, row)
                for sign in game.weights.signs:
                    self.same(next_stand(game, machines, stand, sign), stand_of(game, machines, row + sign))

    def test_wrong_signs(self):
        stand = stand_at(SHARED, [ODD], "x")
        for value in values_but("x") + ["xo", "ox", ""]:
            self.assertIs(self.raises(BadSigns(value), next_stand, SHARED, [ODD], stand, value).part, value)

    def test_what_is_passed_stays(self):
        machines = [ODD]
        stand = stand_at(SHARED, machines, "x")
        next_stand(SHARED, machines, stand, "x")
        passes(SHARED, machines, stand, 0)
        list(stands(SHARED, machines))
        self.assertEqual(len(machines), 1)
        self.assertIs(machines[0], ODD)
        self.same(stand, (True, (0,), "x", ((0,),), None))

    def test_by_names(self):
        self.same(next_stand(sign="o", stand=stand_at(SHARED, [ODD], "x"), machines=[ODD], game=SHARED),
                  stand_at(SHARED, [ODD], "xo"))


class TestPasses(Case):
    def test_against_the_equation(self):
        answers = {True: 0, False: 0}
        for game, machines in told_cases():
            for row in rows_for(game):
                for seat in range(game.seats):
                    found = passes(game, machines, stand_of(game, machines, row), seat)
                    self.same(found, holds(game, machines, row, seat))
                    answers[found] += 1
        self.assertGreater(min(answers.values()), 500)

    def test_rules_of_the_right_end(self):
        game = Shared(Book(XO, Rule("xx", "o", right=True), Rule("x", "", left=True, right=True)))
        for row in rows_up_to(XO, 7):
            for machine in (ODD, ~ODD, Machine.none("xo"), some_machine("xo", 3, 2)):
                self.same(passes(game, [machine], stand_of(game, [machine], row), 0), holds(game, [machine], row, 0))

    def test_seats(self):
        for game in (SHARED, Sides(FLIP, FLIP), Some(FLIP, ODD), Every(FLIP, ODD)):
            machines = [ODD] * game.seats
            stand = stand_at(game, machines, "xx")
            for value in values_but(0, 1) + [-1, 2] + ([1] if game.seats == 1 else []):
                self.assertIs(self.raises(BadSeat(value), passes, game, machines, stand, value).seat, value)

    def test_by_names(self):
        self.same(passes(seat=0, stand=stand_at(SHARED, [ODD], "x"), machines=[ODD], game=SHARED), True)


class TestStands(Case):
    def test_against_all_rows(self):
        cases = [(game, machines_of(game, 2, at)) for at, game in enumerate(small_games())]
        cases += [(Shared(Book(XO, *rules)), (ODD,)) for rules in
                  ([Rule("xo", "o")], [Rule("xx", "oo", left=True)], [Rule("oxx", "oo")])]
        for game, machines in cases:
            found = list(stands(game, machines))
            length = max(len(row) for _, row in found) + 1
            self.same(found, first_rows(game, machines, length))

    def test_closed(self):
        for game, machines in told_cases():
            pairs = list(stands(game, machines, most=20000))
            listed = {stand for stand, _ in pairs}
            self.assertEqual(len(listed), len(pairs))
            self.assertIn(stand_at(game, machines, ""), listed)
            rows = [row for _, row in pairs]
            self.assertEqual(rows, sorted(rows, key=game.weights.place))
            for stand, row in pairs[::7]:
                self.same(stand, stand_of(game, machines, row))
                for sign in game.weights.signs:
                    self.assertIn(next_stand(game, machines, stand, sign), listed)

    def test_the_order_is_by_weight_then_length_then_signs(self):
        heavy = Weights(("b", 9), ("a", 0), ("c", 1))
        machine = some_machine("bac", 3, 2)
        game = Shared(Book(heavy, Rule("b", "c"), Rule("c", "a")))
        rows = [row for _, row in stands(game, [machine])]
        self.assertEqual(rows, sorted(rows, key=heavy.place))
        self.assertNotEqual(rows, sorted(rows, key=lambda row: (len(row), heavy.place(row))))

    def test_most(self):
        for game, machines in told_cases()[::3]:
            pairs = list(stands(game, machines, most=20000))
            self.same(list(stands(game, machines, most=len(pairs))), pairs)
            for most in (1, 2, len(pairs) - 1):
                if 0 < most < len(pairs):
                    found = []
                    def taken():
                        for pair in stands(game, machines, most=most):
                            found.append(pair)
                    self.raises(TooMany("stands", most), taken)
                    self.same(found, pairs[:most])

    def test_the_bound_that_is_not_told(self):
        big = Machine("abc", [[(7 * s + 3 * k + 1) % 61 for k in range(3)] for s in range(61)], [s % 3 == 0 for s in range(61)])
        book = Book(Weights(("a", 3), ("b", 2), ("c", 0)), Rule("ab", "bc"), Rule("bca", "cc"), Rule("b", "c"))
        found = []

        def taken():
            for pair in stands(Shared(book), [big]):
                found.append(pair)
        self.raises(TooMany("stands", 2000), taken)
        self.assertEqual(len(found), 2000)

    def test_one_stand_is_asked_for(self):
        found = stands(SHARED, [ODD], most=1)
        self.same(next(found), ((True, (0,), "", ((),), None), ""))
        self.raises(TooMany("stands", 1), next, found)

    def test_machines_as_a_list_that_changes_afterwards(self):
        machines = [ODD]
        found = list(stands(SHARED, machines))
        machines.append(ODD)
        self.same(found, list(stands(SHARED, (ODD,))))

    def test_by_names(self):
        self.same(list(stands(machines=[ODD], game=SHARED, most=8)), list(stands(SHARED, [ODD])))
        with self.assertRaises(TypeError):
            list(stands(SHARED, [ODD], 2000))
