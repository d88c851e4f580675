"""Kept sets, held against the moves of all rows, and looks among them, held against plays."""

from rowgames.books import Book
from rowgames.errors import BadGame, NotKept, OtherSigns, TooMany
from rowgames.games import Every, Shared, Sides, Some
from rowgames.kept import (Keeping, Kept, Leaves, RightAmong, WrongAmong, kept, look_among, shows_kept, shows_right_among,
                           shows_wrong_among)
from rowgames.machines import Machine
from rowgames.rules import Rule
from rowgames.signs import Weights
from rowgames.stands import next_stand, stand_at, stands
from rowgames.tables import Right, Wrong, look
from helpers import FLIP, ODD, SHARED, XO, Case, values_but
from oracle import (ABC, LEFT, LONG, NO_RULES, RIGHT, bent, machines_of, moves_of, rows_up_to, small_games, some_machine,
                    stand_of, state_behind, wins)
from test_tables import SOLVED

NONE = Machine.none("xo")
TWICE = Machine.having("xo", "xx")
BENT = ODD - TWICE
RIGHT_END = Book(XO, Rule("xx", "oo", right=True), Rule("x", "", left=True, right=True))
BOOKS = [FLIP, NO_RULES, RIGHT_END, Book(XO, *LONG), Book(ABC, *LEFT), Book(ABC, *RIGHT),
         Book(XO, Rule("xo", "o"), Rule("xx", "xo", left=True))]


def sets_of(signs):
    """Machines of sets: all rows, none, and others."""
    return [Machine.every(signs), Machine.none(signs), Machine.having(signs, signs[0]), ~Machine.having(signs, signs[0] * 2),
            Machine.counting(signs, signs[0], 1), some_machine(signs, 2, 1), some_machine(signs, 3, 2),
            ~Machine.counting(signs, signs[-1], 0), Machine.having(signs, signs[::-1])]


def first_out(book, machine, length):
    """The first told row from which a move leads out, and the first such move; None without one."""
    for row in rows_up_to(book.weights, length):
        for move, led in moves_of(book.rules, row):
            if machine[row] and not machine[led]:
                return row, move
    return None


class TestKept(Case):
    def test_against_all_moves(self):
        kinds = []
        for book in BOOKS:
            length = 7 if len(book.weights) == 2 else 6
            for machine in sets_of(book.weights.signs):
                found = kept(book, machine)
                kinds.append(type(found))
                wanted = first_out(book, machine, length)
                self.same(bool(found), wanted is None)
                if found:
                    self.assertIs(type(found), Kept)
                    self.same(found.table, tuple([stand for stand, _ in stands(Shared(book), [machine])]))
                    self.assertEqual(set(vars(found)), {"table"})
                else:
                    self.assertIs(type(found), Leaves)
                    self.same((found.row, found.move), wanted)
                    self.assertEqual(set(vars(found)), {"row", "move"})
        self.assertGreater(min(kinds.count(Kept), kinds.count(Leaves)), 15)

    def test_the_first_move_out(self):
        book = Book(XO, Rule("xo", "oo"), Rule("x", "o"), Rule("xx", "o"))
        machine = ~Machine.just("xo", "ox", "o")
        found = kept(book, machine)
        self.same((found.row, found.move), first_out(book, machine, 4))
        self.same((found.row, found.move), ("x", (0, 1)))
        found = kept(book, machine | Machine.just("xo", "o"))
        self.same((found.row, found.move), ("xx", (0, 1)))

    def test_classes(self):
        self.assertEqual([Kept.__bases__, Leaves.__bases__], [(Keeping,), (Keeping,)])
        for kind in (Keeping, Kept, Leaves):
            self.assertIn("__bool__", vars(kind))
        self.same([bool(Kept(())), bool(Leaves("x", (0, 0)))], [True, False])
        self.same([Kept(table=1).table, Leaves(move=2, row=1).row, Leaves(1, 2).move], [1, 1, 2])

    def test_errors(self):
        for signs in ("ox", "x", "xoz", "xa"):
            self.raises(OtherSigns("machine"), kept, FLIP, Machine.none(signs), most=1)
        for book in BOOKS:
            for machine in sets_of(book.weights.signs):
                found = kept(book, machine)
                first = [row for _, row in stands(Shared(book), [machine])]
                many = len(first) if found else first.index(found.row) + 1
                self.assertEqual(type(kept(book, machine, most=many)), type(found))
                if many > 1:
                    self.raises(TooMany("stands", many - 1), kept, book, machine, most=many - 1)

    def test_the_bound_that_is_not_told(self):
        machine = Machine.modulo("xo", "x", 60) | Machine.modulo("xo", "o", 59)
        self.raises(TooMany("stands", 2000), kept, NO_RULES, machine)
        self.raises(TooMany("stands", 2000), look_among, Shared(NO_RULES), machine, NONE)
        self.raises(TooMany("stands", 2000), look_among, Shared(NO_RULES), NONE, machine)
        self.same(bool(kept(NO_RULES, machine, most=3541)), True)
        with self.assertRaises(TypeError):
            kept(FLIP, ODD, 2000)


class TestShowsKept(Case):
    def shows(self, book, machine, table):
        found = shows_kept(book, machine, table)
        self.assertIsInstance(found, bool)
        return found

    def test_tables_of_kept(self):
        for book in BOOKS:
            for machine in sets_of(book.weights.signs):
                found = kept(book, machine)
                every = [stand for stand, _ in stands(Shared(book), [machine])]
                self.same(self.shows(book, machine, every), bool(found))
                self.same(self.shows(book, machine, tuple(every[::-1])), bool(found))
                self.same(self.shows(book, machine, every + every[:3]), bool(found))
                for at in range(0, len(every), 1 + len(every) // 12):
                    self.same(self.shows(book, machine, every[:at] + every[at + 1:]), False)

    def test_stands_of_no_row(self):
        machine = Machine("xo", ((0, 0), (1, 1)), (True, True))
        table = kept(FLIP, machine).table
        further = [(False, (1,), "o", ((0, 1),), None)]
        for stand in further:
            further += [more for more in [next_stand(SHARED, [machine], stand, sign) for sign in "xo"]
                        if more not in further and more not in table]
        self.same(self.shows(FLIP, machine, table + tuple(further)), True)
        self.same(self.shows(FLIP, machine, table + tuple(further[:-1])), False)
        other = Machine("xo", ((0, 0), (1, 1)), (True, False))
        self.same(self.shows(FLIP, other, table), True)
        self.same(self.shows(FLIP, other, table + tuple(further)), True)
        out = [(False, (0,), "o", ((0, 1),), None)]
        for stand in out:
            out += [more for more in [next_stand(SHARED, [machine], stand, sign) for sign in "xo"]
                    if more not in out and more not in table]
        self.same(self.shows(FLIP, machine, table + tuple(out)), True)
        self.same(self.shows(FLIP, other, table + tuple(out)), False)

    def test_rules_of_the_right_end(self):
        book = Book(XO, Rule("xx", "o", right=True))
        machine = ~Machine.just("xo", "oo")
        every = [stand for stand, _ in stands(Shared(book), [machine])]
        self.same(self.shows(book, machine, every), False)
        self.same((kept(book, machine).row, kept(book, machine).move), ("oxx", (1, 0)))

    def test_other_forms(self):
        table = kept(FLIP, ~TWICE).table
        stand = table[-1]
        for other in ((stand[0],), stand + (0,), list(stand), (1,) + stand[1:], stand[:1] + ((9,),) + stand[2:],
                      stand[:2] + ("xx",) + stand[3:], stand[:3] + ((),) + stand[4:], stand[:4] + (0,), (stand, 0)):
            self.same(self.shows(FLIP, ~TWICE, table + (other,)), False)
        self.same(self.shows(FLIP, ~TWICE, table), True)

    def test_any_values(self):
        table = kept(FLIP, ~TWICE).table
        for value in values_but():
            self.same(self.shows(FLIP, ~TWICE, value), False)
            self.same(self.shows(FLIP, ~TWICE, table + (value,)), False)
            self.same(self.shows(FLIP, ~TWICE, list(table) + [value]), False)
        self.same(self.shows(FLIP, ~TWICE, {stand: 0 for stand in table}), False)
        self.same(shows_kept(table=table, machine=~TWICE, book=FLIP), True)


def among_cases():
    """Games with sets that their books keep, and machines, some of them right."""
    found = []
    for game, machines in SOLVED + [(game, machines_of(game, 2, at)) for at, game in enumerate(small_games())]:
        for among in sets_of(game.weights.signs):
            if all(kept(book, among) for book in game.books):
                found.append((game, among, machines))
                for at, machine in enumerate(machines):
                    for other in bent(machine)[:2]:
                        found.append((game, among, machines[:at] + (other,) + machines[at + 1:]))
    return found


def first_wrong(game, among, machines, length):
    """The first told row and seat at which a machine is wrong, by going through rows; None without one."""
    memo = {}
    for row in rows_up_to(game.weights, length):
        for seat in range(game.seats):
            if among[row] and machines[seat][row] != wins(game, row, seat, memo):
                return row, seat
    return None


def first_pairs(game, among, machines, rows):
    """The pairs (stand, state) of rows, with their first rows."""
    found = {}
    for row in rows:
        found.setdefault((stand_of(game, machines, row), state_behind(among, row)), row)
    return list(found.items())


CASES = among_cases()


class TestLookAmong(Case):
    def test_against_plays(self):
        kinds, seats = [], []
        for game, among, machines in CASES:
            found = look_among(game, among, *machines)
            kinds.append(type(found))
            self.assertIs(found.game, game)
            self.same(found.machines, machines)
            self.same(found.kept, tuple([kept(book, among).table for book in game.books]))
            length = 4
            if found:
                self.assertIs(type(found), RightAmong)
                self.assertIs(first_wrong(game, among, machines, length), None)
                self.assertEqual(set(vars(found)), {"game", "machines", "table", "kept"})
            else:
                self.assertIs(type(found), WrongAmong)
                seats.append(found.seat)
                length = max(length, len(found.row))
                self.same(first_wrong(game, among, machines, length), (found.row, found.seat))
                self.assertEqual(set(vars(found)), {"game", "machines", "row", "seat", "bounds", "kept"})
        self.assertGreater(min(kinds.count(RightAmong), kinds.count(WrongAmong)), 50)
        self.assertEqual(set(seats), {0, 1})

    def test_tables_and_bounds(self):
        for game, among, machines in CASES[::5]:
            found = look_among(game, among, *machines)
            if found:
                longest = 1 + max(len(row) for row in pair_rows(game, among, machines, found.table).values())
                if len(game.weights) ** longest < 5000:
                    pairs = first_pairs(game, among, machines, rows_up_to(game.weights, longest))
                    self.same(found.table, tuple([pair for pair, _ in pairs]))
            elif len(found.row) < 5:
                rows = rows_up_to(game.weights, 6)
                ahead = [row for row in rows if game.weights.place(row) < game.weights.place(found.row)]
                longer = [row for row in ahead if len(row) == 6]
                pairs = first_pairs(game, among, machines, ahead)
                self.assertFalse({row for _, row in pairs} & set(longer))
                self.same(found.bounds, tuple(pairs))

    def test_all_rows(self):
        for game, machines in SOLVED:
            every = Machine.every(game.weights.signs)
            found = look_among(game, every, *machines)
            self.same([stand for stand, _ in found.table], list(look(game, *machines).table))
            self.same({state for _, state in found.table}, {0})
        found = look_among(SHARED, Machine.every("xo"), NONE)
        self.same([found.row, found.seat], ["x", 0])
        self.same(found.bounds, tuple([((stand, 0), row) for stand, row in look(SHARED, NONE).bounds]))

    def test_no_row(self):
        for machine in (NONE, ODD, ~ODD):
            self.same(bool(look_among(SHARED, NONE, machine)), True)

    def test_classes(self):
        self.assertEqual([RightAmong.__bases__, WrongAmong.__bases__], [(Right,), (Wrong,)])
        for kind in (RightAmong, WrongAmong):
            self.assertLessEqual({"__bool__", "__eq__"}, set(vars(kind)))

    def test_equal(self):
        right, wrong = look_among(SHARED, ~TWICE, BENT), look_among(SHARED, Machine.every("xo"), NONE)
        self.assertEqual(right, look_among(Shared(FLIP), ~TWICE, BENT))
        self.assertEqual(wrong, look_among(Shared(FLIP), Machine.every("xo"), NONE))
        self.assertNotEqual(right, wrong)
        self.assertNotEqual(right, look_among(SHARED, ~TWICE, ODD))
        self.assertNotEqual(right, Right(SHARED, right.machines, right.table))
        self.assertNotEqual(Right(SHARED, right.machines, right.table), right)
        self.assertNotEqual(wrong, Wrong(SHARED, wrong.machines, wrong.row, wrong.seat, wrong.bounds))
        self.assertNotEqual(Wrong(SHARED, wrong.machines, wrong.row, wrong.seat, wrong.bounds), wrong)
        self.assertNotEqual(right, RightAmong(SHARED, right.machines, right.table, ()))
        self.assertNotEqual(right, RightAmong(SHARED, right.machines, (), right.kept))
        self.assertNotEqual(right, RightAmong(SHARED, (ODD,), right.table, right.kept))
        self.assertNotEqual(right, RightAmong(Shared(NO_RULES), right.machines, right.table, right.kept))
        self.assertEqual(right, RightAmong(SHARED, right.machines, right.table, right.kept))
        parts = [SHARED, wrong.machines, wrong.row, wrong.seat, wrong.bounds, wrong.kept]
        self.assertEqual(wrong, WrongAmong(*parts))
        for at, other in enumerate([Shared(NO_RULES), (ODD,), "o", 1, (), ()]):
            self.assertNotEqual(wrong, WrongAmong(*parts[:at], other, *parts[at + 1:]))
        for value in values_but():
            self.same([right == value, wrong == value], [False, False])


def pair_rows(game, among, machines, table):
    """The first rows of pairs, by going on from first rows."""
    found = {}
    waiting = [""]
    while waiting:
        row = min(waiting, key=game.weights.place)
        waiting.remove(row)
        pair = (stand_at(game, machines, row), among.state(row))
        if pair not in found:
            found[pair] = row
            waiting += [row + sign for sign in game.weights.signs]
    assert set(found) == set(table)
    return found


class TestErrors(Case):
    def test_in_order(self):
        sides = Sides(FLIP, FLIP)
        other = Machine.none("ox")
        for signs in ("ox", "x", "xoz"):
            self.raises(OtherSigns("among"), look_among, SHARED, Machine.none(signs), None, most=1)
            self.raises(OtherSigns("among"), look_among, SHARED, Machine.none(signs), most=1)
        for value in values_but():
            if not isinstance(value, Machine):
                self.raises(BadGame("machines"), look_among, SHARED, TWICE, value, most=1)
                self.raises(BadGame("machines"), look_among, sides, TWICE, other, value, most=1)
        for game, many in ((SHARED, (0, 2)), (sides, (0, 1, 3))):
            for number in many:
                self.raises(BadGame("machines"), look_among, game, TWICE, *[other] * number, most=1)
        self.raises(OtherSigns("machines"), look_among, SHARED, TWICE, other, most=1)
        self.raises(OtherSigns("machines"), look_among, sides, TWICE, ODD, other, most=1)
        self.raises(TooMany("stands", 1), look_among, SHARED, TWICE, ODD, most=1)
        self.raises(NotKept("xx"), look_among, SHARED, TWICE, ODD)

    def test_each_seat(self):
        many = len(kept(NO_RULES, TWICE).table)
        self.raises(NotKept("xx"), look_among, Sides(NO_RULES, FLIP), TWICE, NONE, NONE)
        self.raises(NotKept("xx"), look_among, Sides(FLIP, NO_RULES), TWICE, NONE, NONE, most=20)
        # Of the right seat the stands are too many, ahead of the row that is not kept.
        first = [row for _, row in stands(SHARED, [TWICE])].index("xx")
        self.assertGreater(first, many)
        self.raises(TooMany("stands", first), look_among, Sides(NO_RULES, FLIP), TWICE, NONE, NONE, most=first)
        self.raises(NotKept("xx"), look_among, Sides(NO_RULES, FLIP), TWICE, NONE, NONE, most=first + 1)
        other = Book(XO, Rule("xx", "xo"))
        self.same(kept(other, TWICE).row, "xx")
        self.raises(NotKept("x"), look_among, Sides(FLIP, other), Machine.having("xo", "x"), NONE, NONE)

    def test_too_many_pairs(self):
        for game, among, machines in CASES[::7]:
            found = look_among(game, among, *machines)
            many = len(found.table) if found else len(found.bounds) + 1
            least = max(len(table) for table in found.kept)
            self.assertEqual(look_among(game, among, *machines, most=max(many, least)), found)
            if many > least:
                self.raises(TooMany("stands", many - 1), look_among, game, among, *machines, most=many - 1)


class ShowCase(Case):
    def right(self, *parts):
        found = shows_right_among(*parts)
        self.assertIsInstance(found, bool)
        return found

    def wrong(self, *parts):
        found = shows_wrong_among(*parts)
        self.assertIsInstance(found, bool)
        return found


class TestShowsRightAmong(ShowCase):
    def test_what_look_among_tells(self):
        for game, among, machines in CASES:
            found = look_among(game, among, *machines)
            if found:
                self.same(self.right(game, among, machines, found.table, found.kept), True)
                self.same(self.right(game, among, list(machines), found.table[::-1], list(found.kept)), True)
                turned = [list(table[::-1]) + [table[0]] for table in found.kept]
                self.same(self.right(game, among, machines, found.table, turned), True)
            else:
                rows = rows_up_to(game.weights, 5)
                table = tuple([pair for pair, _ in first_pairs(game, among, machines, rows)])
                self.same(self.right(game, among, machines, table, found.kept), False)

    def test_each_part_otherwise(self):
        for game, among, machines in CASES[::6]:
            found = look_among(game, among, *machines)
            if not found:
                continue
            for at in range(0, len(found.table), 4):
                left = found.table[:at] + found.table[at + 1:]
                self.same(self.right(game, among, machines, left, found.kept), False)
                self.same(self.right(game, among, machines, found.table + found.table[at:at + 1], found.kept), False)
            table = found.kept[0]
            for tables in ((), found.kept + found.kept[:1], found.kept[1:], (table[1:],) + found.kept[1:], None, table,
                           (None,) + found.kept[1:], {}):
                self.same(self.right(game, among, machines, found.table, tables), False)
            for table in (list(found.table), None, (), found.table[1:] + (None,), tuple([stand for stand, _ in found.table])):
                self.same(self.right(game, among, machines, table, found.kept), False)

    def test_the_form_of_pairs(self):
        found = look_among(SHARED, ~TWICE, BENT)
        stand, state = found.table[-1]
        for bad in (stand, [stand, state], (stand,), (stand, state, 0), (stand, None), (stand, -1), (stand, 3), (stand, False),
                    (state, stand), (list(stand), state), (stand[:4], state), (stand, "0")):
            self.same(self.right(SHARED, ~TWICE, [BENT], found.table + (bad,), found.kept), False)
            self.same(self.right(SHARED, ~TWICE, [BENT], found.table[:-1] + (bad,), found.kept), False)

    def test_a_pair_that_fails_where_it_is_told(self):
        # At the stand of xxx the machine is wrong. That is let by with a state that is not told.
        found = look_among(SHARED, ~TWICE, BENT)
        stand = stand_at(SHARED, [BENT], "xxx")
        self.assertIn((stand, 2), found.table)
        table = found.table + tuple({(stand, state): 0 for state in (0, 1)})
        self.same(self.right(SHARED, ~TWICE, [BENT], table, found.kept), False)

    def test_machines(self):
        found = look_among(SHARED, ~TWICE, BENT)
        for machines in ((), (BENT, BENT), BENT, None, (None,), [Machine.none("ox")], {0: BENT}, "x"):
            self.same(self.right(SHARED, ~TWICE, machines, found.table, found.kept), False)
        for among in (None, Machine.none("ox"), "x", TWICE, 0):
            self.same(self.right(SHARED, among, [BENT], found.table, found.kept), False)

    def test_any_values(self):
        found = look_among(SHARED, ~TWICE, BENT)
        for value in values_but():
            self.same(self.right(SHARED, ~TWICE, [BENT], value, found.kept), False)
            self.same(self.right(SHARED, ~TWICE, [BENT], found.table, value), False)
            self.same(self.right(SHARED, ~TWICE, [BENT], found.table, (value,)), False)
            self.same(self.right(SHARED, ~TWICE, [BENT], found.table + (value,), found.kept), False)
            self.same(self.right(SHARED, ~TWICE, [BENT], found.table + ((value, 0),), found.kept), False)
            self.same(self.right(SHARED, ~TWICE, value, found.table, found.kept), False)
            self.same(self.right(SHARED, value, [BENT], found.table, found.kept), False)

    def test_by_names(self):
        found = look_among(SHARED, ~TWICE, BENT)
        self.same(shows_right_among(kept=found.kept, table=found.table, machines=[BENT], among=~TWICE, game=SHARED), True)


class TestShowsWrongAmong(ShowCase):
    def cases(self):
        found = [(game, among, machines, look_among(game, among, *machines)) for game, among, machines in CASES]
        return [(game, among, machines, told) for game, among, machines, told in found if not told]

    def test_what_look_among_tells(self):
        for game, among, machines, told in self.cases():
            rest = (told.row, told.seat, told.bounds, told.kept)
            self.same(self.wrong(game, among, machines, *rest), True)
            self.same(self.wrong(game, among, list(machines), told.row, told.seat, told.bounds[::-1], list(told.kept)), True)

    def test_each_part_otherwise(self):
        for game, among, machines, told in self.cases()[::6]:
            for row in rows_up_to(game.weights, 3) + [None, "q", 0, (told.row,)]:
                if row != told.row:
                    self.same(self.wrong(game, among, machines, row, told.seat, told.bounds, told.kept), False)
            for seat in (-1, 1 - told.seat, 2, bool(told.seat), None, "0"):
                self.same(self.wrong(game, among, machines, told.row, seat, told.bounds, told.kept), False)
            for at in range(len(told.bounds)):
                left = told.bounds[:at] + told.bounds[at + 1:]
                self.same(self.wrong(game, among, machines, told.row, told.seat, left, told.kept), False)
                twice = told.bounds + told.bounds[at:at + 1]
                self.same(self.wrong(game, among, machines, told.row, told.seat, twice, told.kept), False)
            extra = ((stand_at(game, machines, ""), 0), told.row)
            for bounds in (list(told.bounds), None, told.bounds + (None,), told.bounds[1:] + (extra + (0,),),
                           told.bounds[1:] + (extra[:1],), told.bounds[1:] + (list(extra),),
                           told.bounds[1:] + ((extra[0] + (0,), told.row),),
                           told.bounds + ((stand_at(game, machines, ""), "x"),)):
                self.same(self.wrong(game, among, machines, told.row, told.seat, bounds, told.kept), False)
            for tables in ((), told.kept + told.kept[:1], (told.kept[0][1:],) + told.kept[1:], None, {}):
                self.same(self.wrong(game, among, machines, told.row, told.seat, told.bounds, tables), False)

    def test_the_row_is_told_by_among(self):
        # The machine is wrong at x, which is not in the set; the equation fails there, too.
        among = Machine.counting("xo", "x", 0)
        told = look_among(SHARED, among, NONE)
        self.same(bool(told), True)
        whole = look(SHARED, NONE)
        bounds = tuple([((stand, among.state(row)), row) for stand, row in whole.bounds])
        self.same(self.wrong(SHARED, among, [NONE], "x", 0, bounds, told.kept), False)
        wide = among | Machine.just("xo", "x")
        bounds = tuple([((stand, wide.state(row)), row) for stand, row in whole.bounds])
        tables = (kept(FLIP, wide).table,)
        told = look_among(SHARED, wide, NONE)
        self.same([told.row, self.wrong(SHARED, wide, [NONE], "x", 0, told.bounds, tables)], ["x", True])

    def test_rows_ahead_that_are_not_in_the_set_may_fail(self):
        among = ~Machine.just("xo", "x", "xo", "ox") & ~Machine.having("xo", "xxx")
        small = Machine.counting("xo", "x", 0) | Machine.just("xo", "oox")
        told = look_among(SHARED, small, NONE)
        self.same([told.row, told.seat, bool(kept(FLIP, among))], ["oox", 0, False])
        self.assertIn("x", [row for _, row in told.bounds])
        self.same(self.wrong(SHARED, small, [NONE], "oox", 0, told.bounds, told.kept), True)

    def test_machines_and_sets(self):
        told = look_among(SHARED, Machine.every("xo"), NONE)
        rest = (told.row, told.seat, told.bounds, told.kept)
        self.same(self.wrong(SHARED, Machine.every("xo"), [NONE], *rest), True)
        for machines in ((), (NONE, NONE), NONE, None, (None,), [Machine.none("ox")], {0: NONE}, [ODD]):
            self.same(self.wrong(SHARED, Machine.every("xo"), machines, *rest), False)
        for among in (None, Machine.every("ox"), "x", 0, NONE):
            self.same(self.wrong(SHARED, among, [NONE], *rest), False)

    def test_any_values(self):
        every = Machine.every("xo")
        told = look_among(SHARED, every, NONE)
        parts = [told.row, told.seat, told.bounds, told.kept]
        for value in values_but():
            for at, part in enumerate(parts):
                same = type(value) is type(part) and value == part
                self.same(self.wrong(SHARED, every, [NONE], *parts[:at], value, *parts[at + 1:]), same)
            self.same(self.wrong(SHARED, every, [NONE], "x", 0, told.bounds + ((value, "xx"),), told.kept), False)
            self.same(self.wrong(SHARED, every, [NONE], "x", 0, told.bounds + (((value, 0), "xx"),), told.kept), False)

    def test_by_names(self):
        told = look_among(SHARED, Machine.every("xo"), NONE)
        self.same(shows_wrong_among(kept=told.kept, bounds=told.bounds, seat=0, row="x", machines=[NONE],
                                    among=Machine.every("xo"), game=SHARED), True)


class TestOtherGames(Case):
    def test_sets_of_games_alone(self):
        for game in (Some(FLIP, ODD), Every(FLIP, ODD), Shared(Book(Weights(("p", 1)), Rule("pp", "p")))):
            signs = game.weights.signs
            for machine in (Machine.none(signs), Machine.every(signs)):
                among = ~Machine.having(signs, signs[0] * 3)
                found = look_among(game, among, machine)
                wanted = first_wrong(game, among, [machine], 5)
                self.same(None if found else (found.row, found.seat), wanted)
