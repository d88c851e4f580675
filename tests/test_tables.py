"""Looks, held against plays and against the equation at all rows."""

from rowgames.books import Book
from rowgames.errors import BadGame, OtherSigns, TooMany
from rowgames.games import Every, Shared, Sides, Some
from rowgames.least import least
from rowgames.machines import Machine
from rowgames.rules import Rule
from rowgames.signs import Weights
from rowgames.stands import stands
from rowgames.tables import Look, Right, Wrong, look
from helpers import FLIP, ODD, SHARED, XO, Case, values_but
from oracle import NO_RULES, bent, holds, machines_of, rows_up_to, small_games, wins

NONE = Machine.none("xo")


def solved():
    """Games with their solutions, each a tuple of machines that are right."""
    V = Weights(("x", 2), ("o", 1), ("z", 0))
    sides = Sides(Book(V, Rule("x", "o")), Book(V, Rule("o", "z")))
    found = [(SHARED, (ODD,)), (sides, (Machine.none("xoz"), Machine.having("xoz", "o"))),
             (Shared(NO_RULES), (NONE,)), (Shared(NO_RULES, last=False), (Machine.every("xo"),)),
             (Some(NO_RULES, ODD), (ODD,)), (Every(NO_RULES, ODD), (ODD,))]
    for game in small_games():
        size = least(game, 6)
        if size:
            found.append((game, size.machines))
    return found


SOLVED = solved()


def first_wrong(game, machines, length):
    """The first row and seat at which a machine is wrong, by going through rows; None without one."""
    memo = {}
    for row in rows_up_to(game.weights, length):
        for seat in range(game.seats):
            if machines[seat][row] != wins(game, row, seat, memo):
                return row, seat
    return None


class TestRight(Case):
    def test_right_machines(self):
        self.assertGreaterEqual({type(game) for game, _ in SOLVED}, {Some, Every, Shared, Sides})
        for game, machines in SOLVED:
            self.assertIs(first_wrong(game, machines, 6 if len(game.weights) < 3 else 5), None)
            found = look(game, *machines)
            self.assertIs(type(found), Right)
            self.same(bool(found), True)
            self.assertIs(found.game, game)
            self.assertIsInstance(found.machines, tuple)
            self.assertEqual(len(found.machines), len(machines))
            self.assertTrue(all(one is other for one, other in zip(found.machines, machines)))
            self.same(found.table, tuple([stand for stand, _ in stands(game, machines)]))

    def test_other_states_of_the_same_machine(self):
        self.assertIs(type(look(SHARED, Machine("xo", [[1, 2], [2, 1], [1, 0]], [False, True, False]))), Right)

    def test_attributes(self):
        self.assertEqual(set(vars(look(SHARED, ODD))), {"game", "machines", "table"})
        self.assertEqual(set(vars(look(SHARED, NONE))), {"game", "machines", "row", "seat", "bounds"})
        self.assertEqual([Right.__bases__, Wrong.__bases__], [(Look,), (Look,)])
        for kind in (Look, Right, Wrong):
            self.assertLessEqual({"__bool__", "__eq__"}, set(vars(kind)))


class TestWrong(Case):
    def told(self, game, machines):
        """The first row and seat that look tells, held against all that it tells."""
        found = look(game, *machines)
        self.assertIs(type(found), Wrong)
        self.same(bool(found), False)
        self.assertIs(found.game, game)
        self.same(found.machines, tuple(machines))
        self.assertIs(type(found.row), str)
        self.assertIs(type(found.seat), int)
        ahead = []
        for stand, row in stands(game, machines):
            if row == found.row:
                break
            ahead.append((stand, row))
        self.same(found.bounds, tuple(ahead))
        self.assertTrue(all(holds(game, machines, row, seat) for _, row in ahead for seat in range(game.seats)))
        self.assertTrue(all(holds(game, machines, found.row, seat) for seat in range(found.seat)))
        self.same(holds(game, machines, found.row, found.seat), False)
        return found.row, found.seat

    def test_bent_machines(self):
        seats = []
        for game, machines in SOLVED:
            for at, machine in enumerate(machines):
                for other in bent(machine)[::2]:
                    if other != machine:
                        changed = machines[:at] + (other,) + machines[at + 1:]
                        row, seat = self.told(game, changed)
                        length = max(len(row), 3)
                        self.same(first_wrong(game, changed, length), (row, seat))
                        seats.append(seat)
        self.assertEqual(set(seats), {0, 1})
        self.assertGreater(len(seats), 50)

    def test_arbitrary_machines(self):
        for at, game in enumerate(small_games()):
            machines = machines_of(game, 3, at)
            row, seat = self.told(game, machines)
            self.same(first_wrong(game, machines, max(3, len(row))), (row, seat))

    def test_the_empty_row(self):
        found = look(SHARED, ~ODD)
        self.same([found.row, found.seat, found.bounds], ["", 0, ()])
        found = look(Sides(FLIP, FLIP), NONE, Machine.every("xo"))
        self.same([found.row, found.seat, found.bounds], ["", 1, ()])

    def test_the_first_seat(self):
        found = look(Sides(FLIP, FLIP), NONE, NONE)
        self.same([found.row, found.seat], ["x", 0])
        found = look(Sides(FLIP, FLIP), ODD, NONE)
        self.same([found.row, found.seat], ["x", 1])

    def test_the_row_is_first_by_weight(self):
        light = Shared(Book(Weights(("x", 3), ("o", 1)), Rule("x", "o"), Rule("oo", "")))
        machine = Machine.counting("xo", "x", 0) & Machine.counting("xo", "o", 1)
        found = look(light, machine)
        self.same(first_wrong(light, [machine], 5), (found.row, found.seat))


class TestErrors(Case):
    def test_no_machines(self):
        sides = Sides(FLIP, FLIP)
        for value in values_but():
            if not isinstance(value, Machine):
                self.raises(BadGame("machines"), look, SHARED, value)
                self.raises(BadGame("machines"), look, sides, ODD, value)
                self.raises(BadGame("machines"), look, sides, value, Machine.none("ox"), most=1)
        for game, many in ((SHARED, (0, 2, 3)), (sides, (0, 1, 3))):
            for machine in (ODD, Machine.none("ox")):
                for number in many:
                    self.raises(BadGame("machines"), look, game, *[machine] * number, most=1)

    def test_other_signs(self):
        for signs in ("ox", "x", "xoz", "xa"):
            self.raises(OtherSigns("machines"), look, SHARED, Machine.none(signs), most=1)
            self.raises(OtherSigns("machines"), look, Sides(FLIP, FLIP), ODD, Machine.none(signs), most=1)
            self.raises(OtherSigns("machines"), look, Sides(FLIP, FLIP), Machine.none(signs), ODD, most=1)

    def test_too_many(self):
        for game, machines in SOLVED:
            many = len(look(game, *machines).table)
            self.same(bool(look(game, *machines, most=many)), True)
            for most in {1, many - 1}:
                if 0 < most < many:
                    self.raises(TooMany("stands", most), look, game, *machines, most=most)

    def test_too_many_ahead_of_what_fails(self):
        found = look(SHARED, NONE)
        many = len(found.bounds) + 1
        self.assertEqual(look(SHARED, NONE, most=many), found)
        self.raises(TooMany("stands", many - 1), look, SHARED, NONE, most=many - 1)
        self.same(look(SHARED, ~ODD, most=1).row, "")

    def test_the_bound_that_is_not_told(self):
        mod = Machine.modulo("xo", "x", 60)
        book = Book(XO, Rule("xxx", "oox"), Rule("x", "o", left=True))
        machine = mod | Machine.modulo("xo", "o", 59)
        many = sum(1 for _ in stands(Some(book, Machine.every("xo")), [Machine.every("xo")]))
        self.assertLess(many, 2000)
        every = Every(Book(XO), machine)
        self.raises(TooMany("stands", 2000), look, every, machine)
        self.same(len(look(every, machine, most=3541).table), 3541)


class TestEqual(Case):
    def test_looks(self):
        self.assertEqual(look(SHARED, ODD), look(Shared(FLIP), ODD))
        self.assertEqual(look(SHARED, NONE), look(Shared(FLIP), NONE))
        self.assertNotEqual(look(SHARED, ODD), look(SHARED, NONE))
        self.assertNotEqual(look(SHARED, NONE), look(SHARED, Machine.every("xo")))
        self.assertNotEqual(look(Shared(NO_RULES), NONE), look(Shared(NO_RULES, last=False), ~NONE))
        self.assertNotEqual(look(SHARED, ODD), look(Sides(FLIP, FLIP), ODD, ODD))
        self.assertNotEqual(look(Some(NO_RULES, ODD), ODD), look(Every(NO_RULES, ODD), ODD))

    def test_equal_machines_with_other_states(self):
        wide = Machine("xo", [[1, 2], [2, 1], [1, 0]], [False, True, False])
        turned = Machine("xo", [[2, 0], [2, 1], [0, 2]], [False, False, True])
        self.assertEqual(wide, ODD)
        self.assertEqual(turned, ODD)
        self.assertNotEqual(look(SHARED, wide), look(SHARED, ODD))
        self.assertNotEqual(look(SHARED, turned), look(SHARED, ODD))
        unused = Machine("xo", ODD.steps + ((0, 1),), ODD.told + (True,))
        self.assertEqual(look(SHARED, unused), look(SHARED, ODD))

    def test_other_rows_seats_and_bounds(self):
        found = look(SHARED, NONE)
        self.assertEqual(found, Wrong(SHARED, (NONE,), "x", 0, found.bounds))
        self.assertNotEqual(found, Wrong(SHARED, (NONE,), "o", 0, found.bounds))
        self.assertNotEqual(found, Wrong(SHARED, (NONE,), "x", 1, found.bounds))
        self.assertNotEqual(found, Wrong(SHARED, (NONE,), "x", 0, found.bounds[1:]))
        self.assertNotEqual(found, Wrong(Shared(NO_RULES), (NONE,), "x", 0, found.bounds))
        self.assertNotEqual(found, Wrong(SHARED, (ODD,), "x", 0, found.bounds))
        right = look(SHARED, ODD)
        self.assertEqual(right, Right(SHARED, (ODD,), right.table))
        self.assertNotEqual(right, Right(SHARED, (ODD,), right.table[1:]))
        self.assertNotEqual(right, Right(SHARED, (NONE,), right.table))
        self.assertNotEqual(right, Right(Shared(FLIP, last=False), (ODD,), right.table))

    def test_other_values(self):
        for value in [value for value in values_but() if not isinstance(value, Look)]:
            for found in (look(SHARED, ODD), look(SHARED, NONE)):
                self.same([found == value, value == found, found != value], [False, False, True])
