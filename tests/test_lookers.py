"""Lookers: what shows that machines are right or wrong, and each thing that does not."""

from rowgames.books import Book
from rowgames.games import Every, Shared, Sides, Some
from rowgames.lookers import shows_right, shows_wrong
from rowgames.machines import Machine
from rowgames.rules import Rule
from rowgames.signs import Weights
from rowgames.stands import next_stand, stand_at
from rowgames.tables import look
from helpers import FLIP, ODD, SHARED, XO, Case, odd_values, values_but
from oracle import NO_RULES, bent, holds, rows_up_to, stand_of
from test_tables import SOLVED

NONE = Machine.none("xo")
TABLE = look(SHARED, ODD).table
WRONG = look(SHARED, NONE)
OR = Machine.having("xo", "x")


def with_next(game, machines, stands, further):
    """A table of stands with a further one and all that come behind it."""
    found = list(stands) + [further] * (further not in stands)
    for stand in found:
        found += [more for more in [next_stand(game, machines, stand, sign) for sign in game.weights.signs]
                  if more not in found]
    return tuple(found)


class ShowCase(Case):
    def right(self, game, machines, table):
        found = shows_right(game, machines, table)
        self.assertIsInstance(found, bool)
        return found

    def wrong(self, game, machines, row, seat, bounds):
        found = shows_wrong(game, machines, row, seat, bounds)
        self.assertIsInstance(found, bool)
        return found


class TestShowsRight(ShowCase):
    def test_tables_of_look(self):
        for game, machines in SOLVED:
            table = look(game, *machines).table
            self.same(self.right(game, machines, table), True)
            self.same(self.right(game, list(machines), table[::-1]), True)
            self.same(self.right(game, machines, table[1::2] + table[::2]), True)

    def test_a_stand_left_out_or_told_twice(self):
        for game, machines in SOLVED[:14]:
            table = look(game, *machines).table
            for at in range(len(table)):
                self.same(self.right(game, machines, table[:at] + table[at + 1:]), False)
                self.same(self.right(game, machines, table + (table[at],)), False)
                self.same(self.right(game, machines, table[:at] + (table[at],) + table[at:]), False)

    def test_wrong_machines(self):
        for machine in bent(ODD):
            if machine != ODD:
                self.same(self.right(SHARED, [machine], TABLE), False)
                stands = []
                waiting = [stand_at(SHARED, [machine], "")]
                while waiting:
                    stand = waiting.pop()
                    if stand not in stands:
                        stands.append(stand)
                        waiting += [next_stand(SHARED, [machine], stand, sign) for sign in "xo"]
                self.same(self.right(SHARED, [machine], tuple(stands)), False)

    def test_one_seat_that_does_not_pass(self):
        sides = Sides(FLIP, FLIP)
        table = tuple({stand_of(sides, [ODD, OR], row): 0 for row in rows_up_to(XO, 6)})
        self.same(self.right(sides, [ODD, OR], table), False)
        table = tuple({stand_of(sides, [OR, ODD], row): 0 for row in rows_up_to(XO, 6)})
        self.same(self.right(sides, [OR, ODD], table), False)
        table = tuple({stand_of(sides, [ODD, ODD], row): 0 for row in rows_up_to(XO, 6)})
        self.same(self.right(sides, [ODD, ODD], table), True)

    def test_further_stands(self):
        # A state to which no row leads: with it there are stands of no row, that pass and are closed.
        machine = Machine("xo", ODD.steps + ((1, 2),), ODD.told + (False,))
        table = look(SHARED, machine).table
        further = [(False, (2,), "o", ((1,),), None)]
        for stand in further:
            for sign in "xo":
                following = next_stand(SHARED, [machine], stand, sign)
                if following not in further and following not in table:
                    further.append(following)
        wanted = all((machine.told[machine.step(stand[1][0], stand[2])]) == (False in [machine.told[s] for s in stand[3][0]])
                     for stand in further)
        self.same(self.right(SHARED, [machine], table + tuple(further)), wanted)
        self.same(self.right(SHARED, [machine], table), True)
        empty = Shared(NO_RULES)
        idle = (False, (0,), "", ((0,),), None)
        self.same(self.right(empty, [NONE], look(empty, NONE).table + (idle,)), False)
        lost = look(empty, NONE).table
        self.same([len(lost), self.right(empty, [NONE], lost)], [2, True])
        goal = Some(NO_RULES, NONE)
        table = look(goal, NONE).table
        self.same(self.right(goal, [NONE], table + ((False, (0,), "", ((0,),), 0),)), True)
        self.same(self.right(goal, [NONE], table + ((True, (0,), "", ((0,),), 0), (False, (0,), "", ((0,),), 0))), True)
        self.same(self.right(goal, [NONE], table + ((True, (0,), "", ((0,),), 0),)), False)

    def test_the_form_of_a_stand(self):
        goal = Some(NO_RULES, NONE)
        table = look(goal, NONE).table
        extra = (False, (0,), "", ((0,),), 0)
        self.same(self.right(goal, [NONE], table + (extra,)), True)
        parts = [[0, None, "", 1, ()],
                 [[0], (), (0, 0), (1,), (False,), (-1,), (None,), 0, ("0",), ([],)],
                 [None, 0, "x", "o", "q", (), ("",)],
                 [[(0,)], (), ([0],), ((0,), ()), ((0, 0),), ((1,),), ((False,),), ((-1,),), (0,), (None,), None, (("0",),)],
                 [None, 1, -1, False, "0", (0,)]]
        for at, values in enumerate(parts):
            for value in values:
                other = extra[:at] + (value,) + extra[at + 1:]
                self.same(self.right(goal, [NONE], table + (other,)), False)
                self.same(self.right(goal, [NONE], table + (extra, other)), False)
        for other in (extra[:4], extra + (0,), list(extra), extra[1:], ()):
            self.same(self.right(goal, [NONE], table + (other,)), False)
            self.same(self.right(goal, [NONE], table + (extra, other)), False)

    def test_things_that_are_closed_and_pass_but_for_their_form(self):
        goal = Some(NO_RULES, NONE)
        table = look(goal, NONE).table
        good = (False, (0,), "", ((0,),), 0)
        self.same(self.right(goal, [NONE], with_next(goal, [NONE], table, good)), True)
        for bad in ((False, (-1,), "", ((0,),), 0), (False, (0,), "", ((-1,),), 0), (False, (0,), "", ((0,),), -1),
                    (True, (0,), "x", ((0,),), 0), (False, (0,), "x", ((0,),), 0), (False, (False,), "", ((0,),), 0),
                    (False, (0,), "", ((0,),), False), (False, (0,), "", ((False,),), 0), (0, (0,), "", ((0,),), 0)):
            self.same(self.right(goal, [NONE], with_next(goal, [NONE], table, bad)), False)
        pair = Some(Book(XO, Rule("xx", "")), NONE)
        table = look(pair, NONE).table
        for tail, fresh, wanted in (("x", True, True), ("xo", True, True), ("xo", False, True), ("x", False, False),
                                    ("", False, False), ("xox", True, False), ("xox", False, False)):
            stand = (fresh, (0,), tail, ((0,),), 0)
            self.same(self.right(pair, [NONE], with_next(pair, [NONE], table, stand)), wanted)

    def test_states_of_each_machine(self):
        sides = Sides(NO_RULES, NO_RULES)
        wide = Machine("xo", ((0, 0), (1, 1), (1, 1)), (False, False, False))
        for machines in ((NONE, wide), (wide, NONE)):
            table = look(sides, *machines).table
            for back in ((0, 0), (0, 1), (1, 0), (1, 1), (2, 0), (0, 2), (0, 3), (3, 0), (-1, 0), (0, -1)):
                stand = (False, back, "", ((), ()), None)
                good = all(0 <= state < len(machine) for state, machine in zip(back, machines))
                if good:
                    closed = with_next(sides, machines, table, stand)
                    self.same(self.right(sides, machines, tuple({one: 0 for one in closed})), True)
                else:
                    following = [(False, (one, two), "", ((), ()), None) for one in range(len(machines[0]))
                                 for two in range(len(machines[1]))]
                    closed = tuple({one: 0 for one in table + tuple(following)})
                    self.same(self.right(sides, machines, closed), True)
                    self.same(self.right(sides, machines, closed + (stand,)), False)

    def test_the_form_of_tails(self):
        game = Some(Book(XO, Rule("xx", "o")), Machine.every("xo"))
        every = Machine.every("xo")
        table = look(game, every).table
        self.same(self.right(game, [every], table), True)
        for tail in ("", "x", "o"):
            self.same(self.right(game, [every], table + ((False, (0,), tail, ((),), 0),)), False)
        for tail in ("xxo", "qx", "xq", "X", "x ", None, ("x", "x")):
            for fresh in (True, False):
                self.same(self.right(game, [every], table + ((fresh, (0,), tail, ((0,),), 0),)), False)
        further = (True, (0,), "x", ((0,),), 0)
        following = [further]
        for stand in following:
            for sign in "xo":
                more = next_stand(game, [every], stand, sign)
                if more not in following and more not in table:
                    following.append(more)
        self.same(self.right(game, [every], table + tuple(following)), True)

    def test_moved_is_ascending(self):
        wide = Machine("xo", ((1, 2), (1, 2), (1, 2)), (True, True, True))
        game = Some(FLIP, Machine.every("xo"))
        table = look(game, wide).table
        for moved in ((2, 1), (1, 1), (0, 2, 1), [1, 2], (0, 0), (1, 3), (1, True)):
            stand = (False, (1,), "o", (moved,), 0)
            self.same(self.right(game, [wide], table + (stand,)), False)
        found = [(False, (1,), "o", ((0, 1, 2),), 0)]
        for stand in found:
            found += [more for more in [next_stand(game, [wide], stand, sign) for sign in "xo"]
                      if more not in found and more not in table]
        self.same(self.right(game, [wide], table + tuple(found)), True)

    def test_states_of_the_judging_machine(self):
        sides = Sides(FLIP, NO_RULES, last=True)
        machines = (OR, Machine("xo", ((1, 0), (2, 1), (2, 2)), (False, False, False)))
        found = look(sides, *machines)
        self.same(bool(found), True)
        self.same(self.right(sides, machines, found.table), True)
        moved = {state for stand in found.table for state in stand[3][0]}
        self.same(moved, {0, 1, 2})
        self.assertEqual({stand[3][1] for stand in found.table}, {()})
        self.same(self.right(sides, machines, found.table + ((False, (0, 0), "x", ((), (2,)), None),)), False)

    def test_goals(self):
        self.same(self.right(SHARED, [ODD], TABLE[:-1] + (TABLE[-1][:4] + (0,),)), False)
        some = Some(FLIP, ODD)
        machine = look(some, OR).machines[0]
        table = look(some, OR).table
        self.same(self.right(some, [machine], table), True)
        self.same(self.right(some, [machine], table[:-1] + (table[-1][:4] + (None,),)), False)

    def test_any_values(self):
        for value in values_but():
            self.same(self.right(SHARED, [ODD], value), False)
            self.same(self.right(SHARED, [ODD], TABLE + (value,)), False)
            self.same(self.right(SHARED, [ODD], (value,)), False)
            for at in range(5):
                stand = TABLE[3][:at] + (value,) + TABLE[3][at + 1:]
                if stand != TABLE[3] or type(value) is not type(TABLE[3][at]):
                    self.same(self.right(SHARED, [ODD], TABLE[:3] + (stand,) + TABLE[4:]), False)
        self.same(self.right(SHARED, [ODD], list(TABLE)), False)
        self.same(self.right(SHARED, [ODD], ()), False)
        self.same(self.right(SHARED, [ODD], {stand: True for stand in TABLE}), False)

    def test_by_names(self):
        self.same(shows_right(table=TABLE, machines=[ODD], game=SHARED), True)


class TestShowsWrong(ShowCase):
    def cases(self):
        """Games and machines with what look tells of them."""
        found = [(SHARED, (NONE,), WRONG), (SHARED, (~ODD,), look(SHARED, ~ODD))]
        for game, machines in SOLVED:
            for at, machine in enumerate(machines):
                others = [other for other in bent(machine) if other != machine][::3]
                for other in others:
                    changed = machines[:at] + (other,) + machines[at + 1:]
                    found.append((game, changed, look(game, *changed)))
        return found

    def test_what_look_tells(self):
        for game, machines, told in self.cases():
            self.same(self.wrong(game, machines, told.row, told.seat, told.bounds), True)
            self.same(self.wrong(game, list(machines), told.row, told.seat, told.bounds[::-1]), True)

    def test_each_bound_left_out_or_told_twice(self):
        for game, machines, told in self.cases()[::3]:
            for at, bound in enumerate(told.bounds):
                left = told.bounds[:at] + told.bounds[at + 1:]
                self.same(self.wrong(game, machines, told.row, told.seat, left), False)
                self.same(self.wrong(game, machines, told.row, told.seat, told.bounds + (bound,)), False)
                later = told.bounds + ((bound[0], told.row),)
                self.same(self.wrong(game, machines, told.row, told.seat, later), False)

    def test_another_row_or_seat(self):
        for game, machines, told in self.cases()[::5]:
            for row in rows_up_to(game.weights, 3):
                if row != told.row:
                    self.same(self.wrong(game, machines, row, told.seat, told.bounds), False)
            for seat in (-1, 0, 1, 2, True, False, None, "0"):
                if seat is not told.seat:
                    self.same(self.wrong(game, machines, told.row, seat, told.bounds), False)

    def test_a_lesser_seat_that_fails(self):
        sides = Sides(FLIP, FLIP)
        found = look(sides, NONE, NONE)
        self.same(self.wrong(sides, [NONE, NONE], "x", 0, found.bounds), True)
        self.same(holds(sides, [NONE, NONE], "x", 1), False)
        self.same(self.wrong(sides, [NONE, NONE], "x", 1, found.bounds), False)
        found = look(sides, ODD, NONE)
        self.same(self.wrong(sides, [ODD, NONE], "x", 1, found.bounds), True)
        self.same(self.wrong(sides, [ODD, NONE], "x", 0, found.bounds), False)

    def test_the_empty_row(self):
        bounds = (((False, (0,), "o", ((),), None), "xx"),)
        for told in ((), bounds):
            self.same(self.wrong(SHARED, [~ODD], "", 0, told), True)
        self.same(self.wrong(SHARED, [~ODD], "", 0, bounds + bounds), False)
        self.same(self.wrong(SHARED, [~ODD], "", 0, (((), ""),)), False)
        self.same(self.wrong(SHARED, [ODD], "", 0, ()), False)
        self.same(self.wrong(SHARED, [NONE], "x", 0, ()), False)

    def test_bounds_that_are_not_needed(self):
        # Behind the row, bounds need nothing but their form.
        fails = (False, (0,), "x", ((0,),), None)
        self.same(self.wrong(SHARED, [NONE], "x", 0, WRONG.bounds + ((fails, "xo"),)), True)
        self.same(self.wrong(SHARED, [NONE], "x", 0, WRONG.bounds + ((fails, "x"),)), True)
        self.same(self.wrong(SHARED, [NONE], "x", 0, WRONG.bounds + ((fails, "ooo"),)), False)
        lost = (False, (0,), "o", ((0,),), None)
        self.same(self.wrong(SHARED, [NONE], "x", 0, WRONG.bounds + ((lost, "xxx"),)), True)
        self.same(self.wrong(SHARED, [NONE], "x", 0, WRONG.bounds + ((lost, "ooo"),)), False)

    def test_rows_beside_stands(self):
        fresh, o, oo = WRONG.bounds
        self.same(self.wrong(SHARED, [NONE], "x", 0, (fresh, o, (oo[0], "o"))), True)
        self.same(self.wrong(SHARED, [NONE], "x", 0, (fresh, o, (oo[0], ""))), True)
        self.same(self.wrong(SHARED, [NONE], "x", 0, (fresh, o, (oo[0], "ooo"))), False)
        self.same(self.wrong(SHARED, [NONE], "x", 0, (fresh, (o[0], "oo"), oo)), False)
        self.same(self.wrong(SHARED, [NONE], "x", 0, ((fresh[0], "o"), o, oo)), False)
        self.same(self.wrong(SHARED, [NONE], "x", 0, (fresh, (o[0], "x"), oo)), False)
        self.same(self.wrong(SHARED, [NONE], "x", 0, (fresh, o, (oo[0], "x"))), False)

    def test_rows_beside_stands_are_held_against_the_next_ones(self):
        # Beside a stand may be a row ahead of its first one; then the next ones must be as far ahead.
        weights = Weights(("p", 1), ("q", 1))
        game = Shared(Book(weights, Rule("p", ""), Rule("q", "")))
        machine = Machine.modulo("pq", "p", 2)
        found = look(game, machine)
        self.same([found.row, bool(found)], ["", False])
        other = Shared(Book(weights, Rule("ppp", "")))
        none = Machine.none("pq")
        found = look(other, none)
        self.same(found.row, "ppp")
        self.same(self.wrong(other, [none], "ppp", 0, found.bounds), True)
        for at, (stand, row) in enumerate(found.bounds):
            for sign in "pq":
                bounds = found.bounds[:at] + ((stand, row + sign),) + found.bounds[at + 1:]
                self.same(self.wrong(other, [none], "ppp", 0, bounds), False)

    def test_the_form_of_bounds(self):
        fresh, o, oo = WRONG.bounds
        for bad in ([o[0], o[1]], o + ("o",), (o[0],), (o[1], o[0]), (o[0], None), (o[0], "q"), (o[0], ("o",)), (o[0], 0),
                    (list(o[0]), "o"), (o[0][:4], "o"), ((True, (False,), "o", ((),), None), "o"),
                    ((1, (0,), "o", ((),), None), "o"), ((True, (1,), "o", ((),), None), "o"), None, (), 0):
            self.same(self.wrong(SHARED, [NONE], "x", 0, (fresh, bad, oo)), False)
            self.same(self.wrong(SHARED, [NONE], "x", 0, WRONG.bounds + (bad,)), False)
        self.same(self.wrong(SHARED, [NONE], "x", 0, list(WRONG.bounds)), False)
        for stand, wanted in (((True, (0,), "x", ((0,),), None), True), ((True, (0,), "xx", ((0,),), None), False),
                              ((False, (0,), "xx", ((0,),), None), False), ((False, (0,), "", ((0,),), None), False)):
            self.same(self.wrong(SHARED, [NONE], "x", 0, WRONG.bounds + ((stand, "xx"),)), wanted)

    def test_right_machines(self):
        pairs = tuple((stand, row) for stand, row in zip(TABLE, ["", "o", "oo", "x", "xo", "ox", "xx", "xxo"]))
        for row in rows_up_to(XO, 3):
            self.same(self.wrong(SHARED, [ODD], row, 0, pairs), False)

    def test_any_values(self):
        for value in values_but("x"):
            self.same(self.wrong(SHARED, [NONE], value, 0, WRONG.bounds), False)
        for value in values_but(0):
            self.same(self.wrong(SHARED, [NONE], "x", value, WRONG.bounds), False)
        for value in values_but():
            self.same(self.wrong(SHARED, [NONE], "x", 0, value), False)
            self.same(self.wrong(SHARED, [NONE], "x", 0, WRONG.bounds + (value,)), False)
            self.same(self.wrong(SHARED, [NONE], "x", 0, WRONG.bounds + ((value, "x"),)), False)
        for value in odd_values():
            row = isinstance(value, str) and value.strip("xo") == ""
            further = (((False, (0,), "x", ((0,),), None), value),)
            wanted = row and XO.place(value) >= XO.place("x")
            self.same(self.wrong(SHARED, [NONE], "x", 0, WRONG.bounds + further), wanted)

    def test_by_names(self):
        self.same(shows_wrong(bounds=WRONG.bounds, seat=0, row="x", machines=[NONE], game=SHARED), True)
        every = look(Every(FLIP, ODD), ODD)
        self.same(self.wrong(Every(FLIP, ODD), [ODD], every.row, every.seat, every.bounds), True)
