"""Images, held against the moves of all rows up to a length."""

import itertools

from rowgames.books import Book
from rowgames.errors import BadGame, OtherSigns, TooMany
from rowgames.games import Every, Shared, Sides, Some
from rowgames.images import image, led_into, stuck, within
from rowgames.machines import Machine
from rowgames.rules import Rule
from rowgames.stands import stands
from helpers import FLIP, ODD, SHARED, XO, Case, values_but
from oracle import (ABC, LEFT, LONG, NO_RULES, RIGHT, all_games, behind, equation, machines_of, moves_of, rows_up_to,
                    small_games, some_machine)

NONE = Machine.none("xo")
BOOKS = [FLIP, NO_RULES, Book(XO, *LONG), Book(ABC, *LEFT), Book(ABC, *RIGHT), Book(XO, Rule("x", "", right=True)),
         Book(XO, Rule("xo", "o", left=True), Rule("xx", "ox")), Book(XO, Rule("xx", "", left=True, right=True))]


def rows_for(weights):
    return rows_up_to(weights, {1: 9, 2: 7, 3: 5}[len(weights)])


class ImageCase(Case):
    def is_least(self, machine):
        """It has the fewest states, numbered as they are met."""
        self.assertIs(type(machine), Machine)
        least = machine.least()
        self.same([machine.steps, machine.told], [least.steps, least.told])


class TestLedInto(ImageCase):
    def test_against_all_moves(self):
        for book in BOOKS:
            signs = book.weights.signs
            for machine in (Machine.every(signs), Machine.none(signs), some_machine(signs, 2, 1), some_machine(signs, 3, 2)):
                found = led_into(book, machine)
                self.is_least(found)
                self.same(found.signs, signs)
                for row in rows_for(book.weights):
                    self.same(found[row], any(machine[led] for _, led in moves_of(book.rules, row)))

    def test_errors(self):
        for signs in ("ox", "x", "xoz", "xa"):
            self.raises(OtherSigns("machine"), led_into, FLIP, Machine.none(signs), most=1)
        for book in BOOKS:
            machine = some_machine(book.weights.signs, 2, 1)
            many = len(list(stands(Shared(book), [machine], most=20000)))
            self.same(led_into(book, machine, most=many), led_into(book, machine))
            if many > 1:
                self.raises(TooMany("stands", many - 1), led_into, book, machine, most=many - 1)

    def test_the_bound_that_is_not_told(self):
        machine = Machine.modulo("xo", "x", 60) | Machine.modulo("xo", "o", 59)
        self.raises(TooMany("stands", 2000), led_into, NO_RULES, machine)
        self.raises(TooMany("stands", 2000), image, Shared(NO_RULES), machine)
        self.same(led_into(NO_RULES, machine, most=3541), NONE)

    def test_by_names(self):
        self.same(led_into(machine=ODD, book=FLIP, most=8), led_into(FLIP, ODD))
        with self.assertRaises(TypeError):
            led_into(FLIP, ODD, 2000)


class TestStuck(ImageCase):
    def test_against_all_moves(self):
        for book in BOOKS:
            found = stuck(book)
            self.is_least(found)
            self.same(found.signs, book.weights.signs)
            for row in rows_for(book.weights):
                self.same(found[row], moves_of(book.rules, row) == [])

    def test_errors(self):
        for book in BOOKS:
            many = len(list(stands(Shared(book), [Machine.none(book.weights.signs)])))
            self.same(stuck(book, most=many), stuck(book))
            if many > 1:
                self.raises(TooMany("stands", many - 1), stuck, book, most=many - 1)

    def test_by_names(self):
        with self.assertRaises(TypeError):
            stuck(FLIP, 2000)
        self.same(stuck(book=FLIP), ~Machine.having("xo", "x"))


class TestImage(ImageCase):
    def test_against_all_moves(self):
        for at, game in enumerate(all_games() + small_games()):
            for machines in (machines_of(game, 2, at), machines_of(game, 1, at)):
                found = image(game, *machines, most=20000)
                self.assertIs(type(found), tuple)
                self.assertEqual(len(found), game.seats)
                for machine in found:
                    self.is_least(machine)
                for row in rows_for(game.weights):
                    for seat in range(game.seats):
                        answers = [machines[other][led] for led, other in behind(game, row, seat)]
                        self.same(found[seat][row], equation(game, row, seat, answers))

    def test_solutions_alone_stay(self):
        self.same(image(SHARED, ODD), (ODD,))
        self.assertNotEqual(image(SHARED, NONE), (NONE,))
        sides = Sides(FLIP, NO_RULES)
        self.same(image(sides, Machine.having("xo", "x"), NONE), (Machine.having("xo", "x"), NONE))

    def test_errors(self):
        sides = Sides(FLIP, FLIP)
        for value in values_but():
            if not isinstance(value, Machine):
                self.raises(BadGame("machines"), image, SHARED, value)
                self.raises(BadGame("machines"), image, sides, Machine.none("ox"), value, most=1)
        for game, many in ((SHARED, (0, 2, 3)), (sides, (0, 1, 3))):
            for number in many:
                self.raises(BadGame("machines"), image, game, *[Machine.none("ox")] * number)
        for signs in ("ox", "x", "xoz"):
            self.raises(OtherSigns("machines"), image, SHARED, Machine.none(signs), most=1)
            self.raises(OtherSigns("machines"), image, sides, ODD, Machine.none(signs), most=1)
        for game in (SHARED, sides, Some(FLIP, ODD)):
            machines = [ODD] * game.seats
            many = len(list(stands(game, machines)))
            self.same(image(game, *machines, most=many), image(game, *machines))
            self.raises(TooMany("stands", many - 1), image, game, *machines, most=many - 1)


class TestWithin(ImageCase):
    def nearness(self, game, row, memo):
        """By how many moves at least a goal row can be reached, None if none can."""
        if row not in memo:
            nearer = [self.nearness(game, led, memo) for led, _ in behind(game, row, 0)]
            found = [0] if game.goal[row] else [many + 1 for many in nearer if many is not None]
            memo[row] = min(found, default=None)
        return memo[row]

    def test_against_all_moves(self):
        books = [FLIP, Book(XO, *LONG), Book(ABC, *LEFT), Book(XO, Rule("xx", "oo", right=True), Rule("x", "o", left=True))]
        for book in books:
            signs = book.weights.signs
            for goal in (stuck(book), some_machine(signs, 2, 1), Machine.just(signs, "", signs[1])):
                game = Some(book, goal)
                memo = {}
                for many, machine in enumerate(itertools.islice(within(game, most=20000), 4)):
                    self.is_least(machine)
                    for row in rows_for(book.weights):
                        near = self.nearness(game, row, memo)
                        self.same(machine[row], near is not None and near <= many)

    def test_the_end(self):
        self.same(list(within(Some(FLIP, NONE))), [NONE, NONE])
        self.same(list(within(Some(NO_RULES, ODD))), [ODD, ODD])
        self.same(list(within(Some(FLIP, ODD))), [ODD, Machine.having("xo", "x"), Machine.having("xo", "x")])
        game = Some(Book(XO, Rule("xx", "oo", left=True), Rule("x", "o", right=True)), Machine.just("xo", "ooo"))
        found = list(within(game))
        self.assertEqual(found[-1], found[-2])
        for one, other in zip(found, found[1:-1]):
            self.assertTrue(one < other)
        self.same(image(game, found[-1]), (found[-1],))

    def test_a_goal_that_is_not_least(self):
        wide = Machine("xo", [[1, 2], [2, 1], [1, 0]], [False, True, False])
        for machine in within(Some(FLIP, wide)):
            self.is_least(machine)

    def test_it_can_go_on(self):
        found = list(itertools.islice(within(Some(FLIP, stuck(FLIP))), 12))
        self.assertEqual([len(machine) for machine in found], list(range(2, 14)))

    def test_the_kind(self):
        for game in (SHARED, Every(FLIP, ODD), Sides(FLIP, FLIP)):
            self.raises(BadGame("kind"), lambda: next(within(game, most=1)))

    def test_too_many(self):
        found = within(Some(FLIP, ODD), most=1)
        self.same(next(found), ODD)
        self.raises(TooMany("stands", 1), lambda: next(found))
        many = len(list(stands(SHARED, [ODD])))
        self.same(len(list(itertools.islice(within(Some(FLIP, ODD), most=many), 2))), 2)
        found = within(Some(FLIP, ODD), most=many - 1)
        self.same(next(found), ODD)
        self.raises(TooMany("stands", many - 1), lambda: next(found))

    def test_the_bound_that_is_not_told(self):
        goal = Machine.modulo("xo", "x", 60) | Machine.modulo("xo", "o", 59)
        found = within(Some(NO_RULES, goal))
        self.same(next(found), goal)
        self.raises(TooMany("stands", 2000), lambda: next(found))
        self.same(list(within(Some(NO_RULES, goal), most=3541)), [goal, goal])
        goal = Machine.modulo("xo", "x", 40) | Machine.modulo("xo", "o", 49)
        many = len(list(stands(Shared(NO_RULES), [goal])))
        self.assertEqual(many, 1961)
        self.same(list(within(Some(NO_RULES, goal))), [goal, goal])

    def test_too_many_later(self):
        most = len(list(stands(SHARED, [stuck(FLIP)])))
        found = within(Some(FLIP, stuck(FLIP)), most=most)
        self.same([len(next(found)), len(next(found))], [2, 3])
        self.raises(TooMany("stands", most), lambda: next(found))

    def test_by_names(self):
        self.same(list(within(game=Some(FLIP, NONE), most=20)), [NONE, NONE])
        with self.assertRaises(TypeError):
            list(within(Some(FLIP, NONE), 20))
