"""The search for the least machines, held against a search by the words of point [11]."""

from rowgames.books import Book
from rowgames.errors import BadNumber, TooMany
from rowgames.games import Every, Shared, Sides, Some
from rowgames.least import Least, Parted, Size, least, sizes
from rowgames.ledgers import ledger_of
from rowgames.machines import Machine
from rowgames.plain import is_won
from rowgames.rules import Rule
from rowgames.signs import Weights
from rowgames.tables import look
from helpers import FLIP, ODD, SHARED, XO, Case, values_but
from oracle import ABC, GOAL, LEFT, all_games, bent, rows_up_to, small_games, wins

PAIRS = Shared(Book(XO, Rule("xx", "oo")))
HARD = [PAIRS, Shared(Book(XO, Rule("xx", "o"))), Shared(Book(XO, Rule("xx", "oo"), Rule("x", "o", left=True))),
        Sides(Book(XO, Rule("xx", "oo")), FLIP), Sides(FLIP, Book(XO, Rule("xo", "o")), last=False),
        Some(Book(XO, Rule("xx", "o"), Rule("ox", "o")), Machine.just("xo", "o")),
        Every(Book(XO, Rule("xx", "oo"), Rule("xo", "", left=True)), Machine.having("xo", "ooo")),
        Some(Book(ABC, *LEFT[:2]), GOAL), Shared(Book(Weights(("k", 1)), Rule("kk", ""), Rule("kkk", "k")))]


class Told:
    """The search by its words: members, endings and machines, or the seat that has too many members."""

    def __init__(self, game, most):
        self.game = game
        self.most = most
        self.memo = {}
        self.judged = [set() for _ in game.books]
        self.members = [[""] for _ in game.books]
        self.endings = [[""] for _ in game.books]
        self.looks = 0
        self.seat = None
        while self.seat is None and not self.has_looked():
            pass

    def won(self, row, seat):
        self.judged[seat].add(row)
        return wins(self.game, row, seat, self.memo)

    def alike(self, one, other, seat):
        return all(self.won(one + z, seat) == self.won(other + z, seat) for z in self.endings[seat])

    def first_unlike(self, seat):
        """The first b + a that is alike to no member."""
        for b in self.members[seat]:
            for a in self.game.weights.signs:
                for z in self.endings[seat]:
                    self.won(b + z, seat)
                    self.won(b + a + z, seat)
        for b in self.members[seat]:
            for a in self.game.weights.signs:
                if not any(self.alike(b + a, member, seat) for member in self.members[seat]):
                    return b + a
        return None

    def grow(self):
        for seat in range(self.game.seats):
            while True:
                row = self.first_unlike(seat)
                if row is None:
                    break
                self.members[seat].append(row)
                if len(self.members[seat]) > self.most:
                    self.seat = seat
                    return

    def machine(self, seat):
        members = self.members[seat]
        steps = [[[self.alike(b + a, member, seat) for member in members].index(True) for a in self.game.weights.signs]
                 for b in members]
        return Machine(self.game.weights.signs, steps, [self.won(b, seat) for b in members])

    def has_looked(self):
        """Grows and looks once: whether that ends the search."""
        self.grow()
        if self.seat is not None:
            return True
        self.machines = tuple(self.machine(seat) for seat in range(self.game.seats))
        self.looks += 1
        self.found = look(self.game, *self.machines)
        if not self.found:
            endings = self.endings[self.found.seat]
            for start in range(len(self.found.row) + 1):
                if self.found.row[start:] not in endings:
                    endings.append(self.found.row[start:])
        return bool(self.found)

    def triples(self, seat):
        members = self.members[seat]
        found = []
        for i in range(len(members)):
            for j in range(i + 1, len(members)):
                parting = [z for z in self.endings[seat] if self.won(members[i] + z, seat) != self.won(members[j] + z, seat)]
                found.append((i, j, parting[0]))
        return tuple(found)


class TestLeast(Case):
    def test_against_the_words(self):
        kinds, looks = [], []
        for game in all_games()[:1] + small_games() + HARD:
            for most in (1, 2, 3, 4, 6, 9):
                told = Told(game, most)
                found = least(game, most)
                kinds.append(type(found))
                looks.append(told.looks)
                if told.seat is None:
                    self.is_least(found, told)
                else:
                    self.is_parted(found, told)
        self.assertGreater(min(kinds.count(Least), kinds.count(Parted)), 25)
        self.assertGreater(max(looks), 3)

    def is_least(self, found, told):
        self.assertIs(type(found), Least)
        self.same(bool(found), True)
        self.same([(machine.signs, machine.steps, machine.told) for machine in found.machines],
                  [(machine.signs, machine.steps, machine.told) for machine in told.machines])
        self.assertIsInstance(found.machines, tuple)
        self.same(found.table, told.found.table)
        self.same(found.members, tuple(tuple(rows) for rows in told.members))
        self.same(found.endings, tuple(told.triples(seat) for seat in range(told.game.seats)))
        self.assertEqual(set(vars(found)), {"machines", "table", "members", "endings"})

    def is_parted(self, found, told):
        self.assertIs(type(found), Parted)
        self.same(bool(found), False)
        self.same(found.seat, told.seat)
        self.same(found.beginnings, tuple(told.members[told.seat]))
        self.assertEqual(len(found.beginnings), told.most + 1)
        self.same(found.endings, told.triples(told.seat))
        ledger = {}
        for i, j, z in found.endings:
            for at in (i, j):
                ledger.update(ledger_of(told.game, found.beginnings[at] + z, told.seat))
        self.same(found.ledger, ledger)
        self.assertEqual(set(vars(found)), {"seat", "beginnings", "endings", "ledger"})

    def test_machines_are_right_and_least(self):
        for game in small_games() + HARD:
            found = least(game, 12)
            if found:
                for seat, machine in enumerate(found.machines):
                    for row in rows_up_to(game.weights, 4):
                        self.same(machine[row], is_won(game, row, seat))
                    self.assertEqual(len(machine), len(machine.least()))

    def test_no_other_machine_of_this_size_is_right(self):
        for game in small_games():
            found = least(game, 4)
            if found and game.seats == 1:
                for other in bent(found.machines[0]):
                    self.same(bool(look(game, other)), False)

    def test_examples_of_its_parts(self):
        found = least(SHARED, 2)
        self.same([found.members, found.endings, found.machines[0].steps, found.machines[0].told],
                  [(("", "x"),), (((0, 1, ""),),), ((1, 0), (0, 1)), (False, True)])
        self.same(found.table, look(SHARED, ODD).table)
        found = least(Sides(FLIP, Book(XO)), 2)
        self.same([found.members, found.endings], [(("", "x"), ("",)), (((0, 1, ""),), ())])

    def test_the_numbers_of_states(self):
        for most in range(2, 13):
            self.same(bool(least(SHARED, most)), True)
        self.same(least(PAIRS, 12, rows=3000).beginnings[:4], ("", "x", "xx", "xxx"))

    def test_most(self):
        for value in values_but(1, 2) + [0, -1, 13, 12.0]:
            self.raises(BadNumber("most"), least, SHARED, value, rows=1, stands=1)
        self.same(bool(least(SHARED, 1)), False)
        self.same(bool(least(Shared(Book(XO)), 1, rows=1, stands=3)), True)
        self.same(bool(least(SHARED, 12)), True)

    def test_too_many_rows(self):
        # The longest row that is judged for most 2 is xx: plays lead from it to four rows.
        self.same(bool(least(SHARED, 2, rows=4)), True)
        self.raises(TooMany("rows", 3), least, SHARED, 2, rows=3)
        self.raises(TooMany("rows", 1), least, SHARED, 1, rows=1)
        self.same(bool(least(SHARED, 1, rows=2)), False)
        for game in HARD:
            told = Told(game, 5)
            many = max(len(ledger_of(game, row, seat)) for seat in range(game.seats) for row in told.judged[seat])
            self.assertEqual(type(least(game, 5, rows=many)), type(least(game, 5)))
            self.raises(TooMany("rows", many - 1), least, game, 5, rows=many - 1)

    def test_too_many_stands(self):
        self.same(bool(least(SHARED, 2, stands=8)), True)
        self.raises(TooMany("stands", 7), least, SHARED, 2, stands=7)
        self.same(bool(least(SHARED, 1, stands=1)), False)
        # Rows come ahead of stands: growing is ahead of looking.
        self.raises(TooMany("rows", 3), least, SHARED, 2, rows=3, stands=1)
        self.raises(TooMany("stands", 1), least, SHARED, 2, rows=4, stands=1)

    def test_the_bounds_that_are_not_told(self):
        many = Some(FLIP, Machine.counting("xo", "x", 11))
        self.raises(TooMany("rows", 2000), least, many, 12)
        self.raises(TooMany("rows", 2000), lambda: list(sizes(many, 12)))
        self.same(bool(least(many, 1, rows=4096)), False)
        four = Book(Weights(("a", 1), ("b", 1), ("c", 1), ("d", 1)), Rule("abcd", ""))
        wheel = Machine.modulo("abcd", "a", 8)
        idle = Some(four, Machine("abcd", wheel.steps, [False] * 8))
        self.raises(TooMany("stands", 2000), least, idle, 1)
        self.raises(TooMany("stands", 2000), lambda: list(sizes(idle, 1)))
        self.same(bool(least(idle, 1, stands=20000)), True)
        with self.assertRaises(TypeError):
            least(SHARED, 2, 2000)


class TestKept(Case):
    def test_the_very_objects(self):
        for value in values_but():
            found = Least(value, [value], value, {0: 1})
            self.assertIs(found.machines, value)
            self.assertIs(found.members, value)
            self.same([found.table, found.endings, bool(found)], [[value], {0: 1}, True])
            found = Parted(value, value, [value], value)
            self.assertIs(found.seat, value)
            self.assertIs(found.beginnings, value)
            self.assertIs(found.ledger, value)
            self.same([found.endings, bool(found)], [[value], False])
        inside = []
        self.assertIs(Least(0, inside, 0, 0).table, inside)
        self.assertIs(Least(0, 0, 0, inside).endings, inside)
        self.assertIs(Parted(0, 0, inside, 0).endings, inside)

    def test_by_names(self):
        found = Least(endings=4, members=3, table=2, machines=1)
        self.same([found.machines, found.table, found.members, found.endings], [1, 2, 3, 4])
        found = Parted(ledger=4, endings=3, beginnings=2, seat=1)
        self.same([found.seat, found.beginnings, found.endings, found.ledger], [1, 2, 3, 4])
        self.same(bool(least(most=2, game=SHARED, stands=8, rows=4)), True)

    def test_classes(self):
        self.assertEqual([Least.__bases__, Parted.__bases__], [(Size,), (Size,)])
        self.same([Size.MOST, Least.MOST, least(SHARED, 1).MOST], [12, 12, 12])
        for kind in (Least, Parted):
            self.assertIn("__bool__", vars(kind))


class TestSizes(Case):
    def test_up_to_the_first_least(self):
        for game in small_games() + HARD[:4]:
            found = list(sizes(game, 5))
            self.same([bool(one) for one in found[:-1]], [False] * (len(found) - 1))
            self.assertTrue(found[-1] or len(found) == 5)
            for at, one in enumerate(found):
                other = least(game, at + 1)
                self.assertIs(type(one), type(other))
                self.same([vars(one)[name] for name in vars(other)], [vars(other)[name] for name in vars(other)])

    def test_most(self):
        for value in values_but(1, 2) + [0, -1, 13]:
            self.raises(BadNumber("most"), lambda: next(sizes(SHARED, value, rows=1)))
        self.same([bool(one) for one in sizes(SHARED, 1)], [False])
        self.same([bool(one) for one in sizes(SHARED, 12)], [False, True])

    def test_too_many_when_its_item_is_asked_for(self):
        found = sizes(SHARED, 9, rows=2)
        self.same(bool(next(found)), False)
        self.raises(TooMany("rows", 2), lambda: next(found))
        found = sizes(SHARED, 9, stands=7)
        self.same(bool(next(found)), False)
        self.raises(TooMany("stands", 7), lambda: next(found))
        self.raises(TooMany("rows", 1), lambda: next(sizes(SHARED, 9, rows=1)))

    def test_by_names(self):
        self.same(len(list(sizes(most=9, game=SHARED, stands=8, rows=4))), 2)
        with self.assertRaises(TypeError):
            list(sizes(SHARED, 9, 2000))
