"""Games compared, held against plays of both games at all rows up to a length."""

import itertools

from rowgames.books import Book
from rowgames.compare import (Alike, Fewest, Likeness, Unlike, alike, fewer, fewest, needless, outcomes, shows_alike,
                              shows_unlike)
from rowgames.errors import BadGame, NotRight, OtherSigns, TooMany
from rowgames.games import Every, Shared, Sides, Some
from rowgames.least import least
from rowgames.machines import Machine
from rowgames.rules import Rule
from rowgames.signs import Weights
from rowgames.tables import look
from helpers import FLIP, ODD, SHARED, XO, Case, defaults_of, same, values_but
from oracle import NO_RULES, rows_up_to, wins
from test_tables import SOLVED

NONE = Machine.none("xo")
EVERY = Machine.every("xo")
V = Weights(("x", 2), ("o", 1), ("z", 0))
WIDE = Shared(Book(Weights(("x", 1), ("o", 0), ("p", 0)), Rule("x", "o"), Rule("x", "p")))
THREE = (Machine("xop", ((1, 0, 0), (0, 1, 1)), (False, True)),)
SIDES = Sides(Book(V, Rule("x", "o"), Rule("x", "z")), Book(V, Rule("o", "z"), Rule("x", "oz"), Rule("oo", "")))
EIGHT = Shared(Book(XO, *map(Rule.read, ("[x>o]", "[x>]", "x>o]", "x>]", "[x>o", "[x>", "x>o", "x>"))))


def machines_for(game):
    """The solution of a game that has one of few states."""
    return least(game, 12, rows=20000, stands=20000).machines


def with_books(game, *books):
    """A game of the same kind with other books."""
    if isinstance(game, (Some, Every)):
        return type(game)(books[0], game.goal)
    return type(game)(*books, last=game.last)


def variants(game):
    """Games with equal weights and as many seats: one rule less or more, turned, other endings and goals."""
    found = [game, -game]
    for seat, book in enumerate(game.books):
        others = [Book(book.weights, *[rule for rule in book.rules if rule != gone]) for gone in book.rules]
        others.append(Book(book.weights, *book.rules[::-1]))
        sign = book.weights.signs[0]
        if len(book) < 8 and book.weights[sign] > 0 and Rule(sign, "") not in book:
            others.append(book + Rule(sign, ""))
        for other in others:
            found.append(with_books(game, *game.books[:seat], other, *game.books[seat + 1:]))
    if game.goal is not None:
        found += [type(game)(game.books[0], ~game.goal), Some(game.books[0], game.goal), Every(game.books[0], game.goal),
                  Shared(game.books[0]), Shared(game.books[0], last=False)]
    elif game.seats == 1:
        signs = game.weights.signs
        found += [Shared(game.books[0], last=not game.last), Some(game.books[0], Machine.none(signs)),
                  Every(game.books[0], Machine.every(signs))]
    else:
        found += [Sides(*game.books, last=not game.last), Sides(*game.books[::-1], last=game.last)]
    return found


def first_unlike(one, other, length):
    """The first row, up to a length, and the first seat at which the winners are not the same."""
    ours, theirs = {}, {}
    for row in rows_up_to(one.weights, length):
        for seat in range(one.seats):
            if wins(one, row, seat, ours) != wins(other, row, seat, theirs):
                return row, seat
    return None


class TestAlike(Case):
    def held(self, one, machines, other):
        """What alike tells of two games, held against plays."""
        found = alike(one, machines, other, most=20000)
        self.same(found.shown, look(one, *machines, most=20000).table)
        told = look(other, *machines, most=20000)
        length = 6 if len(one.weights) < 3 else 4
        if found:
            self.assertIs(type(found), Alike)
            self.assertIs(first_unlike(one, other, length), None)
            self.same(found.table, told.table)
            self.same(shows_alike(one, machines, other, found.shown, found.table), True)
        else:
            self.assertIs(type(found), Unlike)
            self.same(first_unlike(one, other, max(length, len(found.row))), (found.row, found.seat))
            self.same(found.bounds, told.bounds)
            self.same(shows_unlike(one, machines, other, found.shown, found.row, found.seat, found.bounds), True)
        self.assertIsInstance(bool(found), bool)
        return bool(found)

    def test_many_pairs(self):
        answers = []
        for game, machines in SOLVED + [(WIDE, THREE), (SIDES, machines_for(SIDES))]:
            for other in variants(game):
                answers.append(self.held(game, machines, other))
        self.assertGreater(answers.count(True), 60)
        self.assertGreater(answers.count(False), 60)

    def test_itself_and_rules_in_another_order(self):
        for game, machines in SOLVED + [(WIDE, THREE)]:
            self.same(self.held(game, list(machines), game), True)
            turned = [Book(book.weights, *book.rules[::-1]) for book in game.books]
            self.same(self.held(game, machines, with_books(game, *turned)), True)

    def test_other_kinds(self):
        self.same(self.held(SHARED, [ODD], Every(FLIP, ODD)), False)
        self.same(self.held(Shared(NO_RULES), [NONE], Some(FLIP, NONE)), True)
        self.same(self.held(Some(NO_RULES, ODD), [ODD], SHARED), True)
        self.same(self.held(Shared(NO_RULES, last=False), [EVERY], Every(FLIP, EVERY)), True)

    def test_classes(self):
        self.same([Alike.__bases__, Unlike.__bases__], [(Likeness,), (Likeness,)])
        for kind in (Likeness, Alike, Unlike):
            self.assertIn("__bool__", vars(kind))
        self.same(set(vars(alike(SHARED, [ODD], SHARED))), {"shown", "table"})
        self.same(set(vars(alike(SHARED, [ODD], Shared(FLIP, last=False)))), {"shown", "row", "seat", "bounds"})

    def test_errors_in_their_order(self):
        other_weights = [Shared(Book(Weights(*pairs))) for pairs in (
            [("x", 1)], [("o", 0), ("x", 1)], [("x", 2), ("o", 0)], [("x", 1), ("p", 0)], [("x", 1), ("o", 0), ("p", 0)])]
        wrong = Machine.none("ox")
        for other in other_weights:
            for machines in ([ODD], [wrong], [NONE], [None], []):
                self.raises(OtherSigns("other"), alike, SHARED, machines, other, most=1)
            two = Sides(other.books[0], other.books[0])
            self.raises(OtherSigns("other"), alike, SHARED, [ODD], two)
            self.raises(OtherSigns("other"), shows_alike, SHARED, [ODD], two, (), ())
            self.raises(OtherSigns("other"), shows_unlike, SHARED, [ODD], other, (), "", 0, ())
        sides = Sides(FLIP, FLIP)
        for machines in ([ODD], [wrong], [NONE], [None], []):
            self.raises(BadGame("seats"), alike, SHARED, machines, sides, most=1)
            self.raises(BadGame("seats"), alike, sides, machines, SHARED, most=1)
        self.raises(BadGame("seats"), shows_alike, SHARED, [ODD], sides, (), ())
        self.raises(BadGame("seats"), shows_unlike, sides, [ODD, ODD], SHARED, (), "", 0, ())
        for machines in ([], [ODD, ODD], [None], ["x"], [wrong, wrong]):
            self.raises(BadGame("machines"), alike, SHARED, machines, SHARED, most=1)
        self.raises(OtherSigns("machines"), alike, SHARED, [wrong], SHARED, most=1)

    def test_bounds_and_wrong_machines(self):
        many = len(look(SHARED, ODD).table)
        other = Shared(Book(XO, Rule("x", "o"), Rule("xxx", "ooo"), Rule("xxx", "")))
        more = len(look(other, ODD, most=20000).table)
        self.assertGreater(more, many)
        self.same(bool(alike(SHARED, [ODD], other, most=more)), True)
        self.raises(TooMany("stands", more - 1), alike, SHARED, [ODD], other, most=more - 1)
        self.raises(TooMany("stands", many - 1), alike, SHARED, [ODD], other, most=many - 1)
        self.raises(NotRight("", 0), alike, SHARED, [~ODD], other, most=1)
        self.raises(NotRight("x", 0), alike, SHARED, [NONE], other)
        self.raises(NotRight("x", 1), alike, Sides(FLIP, FLIP), [ODD, NONE], Sides(FLIP, NO_RULES))
        self.same(alike(SHARED, [ODD], Shared(FLIP, last=False)).row, "")

    def test_one_book_twice(self):
        sides = Sides(FLIP, FLIP)
        self.same(self.held(sides, (ODD, ODD), sides), True)
        self.raises(BadGame("seats"), alike, SHARED, (ODD,), sides)
        self.same(alike(sides, (ODD, ODD), Sides(FLIP, NO_RULES)).seat, 1)


class TestShown(Case):
    def alike(self, *values):
        return shows_alike(SHARED, [ODD], Every(NO_RULES, ODD), *values)

    def unlike(self, *values):
        return shows_unlike(SHARED, [ODD], Shared(FLIP + Rule("xx", "oo")), *values)

    def test_in_any_order(self):
        found = alike(SHARED, [ODD], Every(NO_RULES, ODD))
        self.same(self.alike(found.shown[::-1], found.table[1:] + found.table[:1]), True)
        found = alike(SHARED, [ODD], Shared(FLIP + Rule("xx", "oo")))
        self.same(self.unlike(found.shown[::-1], found.row, found.seat, found.bounds[::-1]), True)

    def test_each_part_otherwise(self):
        found = alike(SHARED, [ODD], Every(NO_RULES, ODD))
        for part, change in itertools.product((0, 1), range(4)):
            values = [found.shown, found.table]
            rest = values[part]
            values[part] = [rest[1:], rest + rest[:1], list(rest), rest[:-1]][change]
            self.same(self.alike(*values), False)
        self.same(self.alike(found.table, found.shown), False)
        found = alike(SHARED, [ODD], Shared(FLIP + Rule("xx", "oo")))
        told = [found.shown, found.row, found.seat, found.bounds]
        self.same(self.unlike(*told), True)
        others = {0: [found.shown[1:], found.shown + found.shown[:1], list(found.shown), found.shown[:-1], found.bounds],
                  1: ["", "x", "xo", "xxx", "q", None], 2: [1, -1, False, None, "0"],
                  3: [found.bounds[1:], found.bounds + found.bounds[:1], list(found.bounds), found.bounds[:-1],
                      found.shown, ()]}
        for part, values in others.items():
            for value in values:
                self.same(self.unlike(*told[:part], value, *told[part + 1:]), False)

    def test_any_values(self):
        found = alike(SHARED, [ODD], Every(NO_RULES, ODD))
        away = alike(SHARED, [ODD], Shared(FLIP + Rule("xx", "oo")))
        for value in values_but():
            self.same(self.alike(value, found.table), False)
            self.same(self.alike(found.shown, value), False)
            self.same(self.unlike(value, away.row, 0, away.bounds), False)
            self.same(self.unlike(away.shown, value, 0, away.bounds), False)
            self.same(self.unlike(away.shown, away.row, 0, value), False)
            if not same(value, 0):
                self.same(self.unlike(away.shown, away.row, value, away.bounds), False)


class TestFewer(Case):
    def test_games(self):
        for game, _ in SOLVED + [(WIDE, THREE), (SIDES, None)]:
            stays = [[stay for many in range(len(book) + 1) for stay in itertools.combinations(range(len(book)), many)]
                     for book in game.books]
            for choice in itertools.product(*stays):
                books = [Book(book.weights, *[book[at] for at in stay]) for book, stay in zip(game.books, choice)]
                found = fewer(game, choice)
                self.assertIs(type(found), type(game))
                self.assertEqual(found, with_books(game, *books))

    def test_no_choice(self):
        wrong = [(), ((0, 1), ()), [(0, 1)], ([0, 1],), ((1, 0),), ((0, 0),), ((2,),), ((-1,),), ((True,),), ((0, True),),
                 (0,), 0, ((0, 1), (0, 1)), ((0, "1"),), ((0, None),), (None,), "0", {0: 1}, ((0, (1,)),)]
        for value in wrong + values_but():
            self.raises(BadGame("choice"), fewer, WIDE, value)
        for value in [((0,),), ((0,), (3,)), ((2,), ()), [(), ()], ((), [0]), ((1, 0), ()), ((), (), ()), ((False,), ())]:
            self.raises(BadGame("choice"), fewer, SIDES, value)
        self.assertEqual(fewer(SIDES, ((), (2,))), Sides(Book(V), Book(V, Rule("oo", ""))))
        for value in values_but(()):
            if not same(value, ((),)):
                self.raises(BadGame("choice"), fewer, Shared(NO_RULES), value)


def choices_of(game):
    """All choices in their order, by the words of the document."""
    stays = [[stay for many in range(len(book) + 1) for stay in itertools.combinations(range(len(book)), many)]
             for book in game.books]
    return sorted(itertools.product(*stays), key=lambda choice: (sum(map(len, choice)), choice))


class TestNeedlessAndFewest(Case):
    def games(self):
        found = [(game, machines) for game, machines in SOLVED if sum(map(len, game.books)) < 6]
        return found + [(WIDE, THREE), (SIDES, machines_for(SIDES))]

    def test_needless(self):
        seen = []
        for game, machines in self.games():
            wanted = []
            for seat, book in enumerate(game.books):
                for index in range(len(book)):
                    stays = [tuple(range(len(other))) for other in game.books]
                    stays[seat] = tuple(at for at in range(len(book)) if at != index)
                    if first_unlike(game, fewer(game, tuple(stays)), 6 if len(game.weights) < 3 else 5) is None:
                        wanted.append((seat, index))
            found = needless(game, list(machines), most=20000)
            self.same(found, tuple(wanted))
            seen += found
        self.assertLessEqual({0, 1}, {seat for seat, _ in seen})

    def test_fewest(self):
        for game, machines in self.games():
            found = fewest(game, list(machines), most=20000)
            self.assertIs(type(found), Fewest)
            ahead = []
            for choice in choices_of(game):
                place = first_unlike(game, fewer(game, choice), 6 if len(game.weights) < 3 else 5)
                if place is None:
                    self.same(found.choice, choice)
                    break
                ahead.append((choice,) + place)
            self.same(found.reasons, ahead)
            self.assertEqual(found.game, fewer(game, found.choice))
            self.same(len(found), sum(map(len, found.choice)))
            self.same(set(vars(found)) >= {"choice", "game", "reasons"}, True)

    def test_choices_in_order(self):
        machine = machines_for(SIDES)
        found = fewest(SIDES, machine)
        self.same([choice for choice, _, _ in found.reasons], choices_of(SIDES)[:len(found.reasons)])
        self.assertGreater(len(found.reasons), 4)

    def test_all_of_eight_rules(self):
        machine = machines_for(EIGHT)
        found = fewest(EIGHT, machine, most=20000)
        self.same([choice for choice, _, _ in found.reasons], choices_of(EIGHT)[:len(found.reasons)])
        for choice, row, seat in found.reasons:
            self.same(look(fewer(EIGHT, choice), *machine, most=20000).row, row)
            self.same(seat, 0)
        self.assertGreater(len(found.reasons), 1)

    def test_many_rules_with_none_that_stays(self):
        game = Sides(Book(XO, *EIGHT.books[0].rules[:4]), Book(XO, *EIGHT.books[0].rules[4:]), last=True)
        machines = machines_for(game)
        found = fewest(game, machines, most=20000)
        self.same([choice for choice, _, _ in found.reasons], choices_of(game)[:len(found.reasons)])
        never = Some(EIGHT.books[0], EVERY)
        found = fewest(never, [EVERY])
        self.same([found.choice, found.reasons, len(found)], [((),), [], 0])

    def test_reasons_belong_to_the_caller(self):
        found = fewest(WIDE, THREE)
        found.reasons.clear()
        self.same(fewest(WIDE, THREE).reasons, [(((),), "x", 0)])

    def test_too_many_rules(self):
        book = Book(XO, *EIGHT.books[0].rules[:1])
        for machines in ([], [None], [NONE], [ODD, ODD], [EVERY, NONE]):
            self.raises(TooMany("rules", 8), fewest, Sides(EIGHT.books[0], book), machines, most=1)
            self.raises(TooMany("rules", 8), fewest, Sides(book, EIGHT.books[0]), machines, most=1)
        self.raises(BadGame("machines"), fewest, EIGHT, [], most=1)

    def test_errors(self):
        for ask in (needless, fewest):
            self.raises(BadGame("machines"), ask, WIDE, [], most=1)
            self.raises(BadGame("machines"), ask, WIDE, [None], most=1)
            self.raises(BadGame("machines"), ask, WIDE, THREE * 2, most=1)
            self.raises(OtherSigns("machines"), ask, WIDE, [ODD], most=1)
            self.raises(NotRight("", 0), ask, WIDE, [~THREE[0]], most=1)
            self.raises(NotRight("x", 0), ask, WIDE, [Machine.none("xop")])
            many = len(look(WIDE, *THREE).table)
            self.raises(TooMany("stands", many - 1), ask, WIDE, THREE, most=many - 1)
            ask(WIDE, THREE, most=many)

    def test_the_bound_that_is_not_told(self):
        for ask in (alike, needless, fewest):
            self.same(defaults_of(ask), {"most": 2000})

    def test_what_a_further_game_raises(self):
        game = Shared(Book(XO, *map(Rule.read, ("xo>", "x>o", "x>o]"))), last=False)
        machines = machines_for(game)
        self.same([len(look(game, *machines).table), len(look(fewer(game, ((0, 2),)), *machines).table)], [16, 19])
        self.same(needless(game, machines, most=19), ((0, 0), (0, 1), (0, 2)))
        for most in (16, 17, 18):
            self.raises(TooMany("stands", most), needless, game, machines, most=most)
        wide = Shared(Book(XO, *map(Rule.read, ("xo>", "x>o]", "x>oo"))))
        machines = machines_for(wide)
        self.same([len(look(wide, *machines).table), len(look(fewer(wide, ((0, 1),)), *machines).table)], [16, 19])
        self.raises(TooMany("stands", 18), needless, wide, machines, most=18)
        self.raises(TooMany("stands", 15), needless, wide, machines, most=15)


class TestOutcomes(Case):
    def test_who_wins(self):
        games = [(game, machines) for game, machines in SOLVED if isinstance(game, Sides)] + [(SIDES, machines_for(SIDES))]
        for game, machines in games:
            told = outcomes(game, list(machines))
            self.same(set(told), {"left", "right", "first", "second"})
            memo = {}
            for row in rows_up_to(game.weights, 5):
                left, right = wins(game, row, 0, memo), wins(game, row, 1, memo)
                word = {(True, False): "left", (False, True): "right", (True, True): "first"}.get((left, right), "second")
                self.same([name for name, machine in told.items() if machine[row]], [word])
            for machine in told.values():
                self.same([machine.steps, machine.told], [machine.least().steps, machine.least().told])

    def test_any_two_machines(self):
        for left, right in itertools.product((NONE, EVERY, ODD, ~ODD, Machine.having("xo", "ox")), repeat=2):
            told = outcomes(Sides(FLIP, NO_RULES), (left, right))
            for row in rows_up_to(XO, 4):
                wanted = {"left": left[row] and not right[row], "right": right[row] and not left[row],
                          "first": left[row] and right[row], "second": not left[row] and not right[row]}
                self.same({word: machine[row] for word, machine in told.items()}, wanted)
            for machine in told.values():
                self.same([machine.steps, machine.told], [machine.least().steps, machine.least().told])

    def test_the_dict_belongs_to_the_caller(self):
        machines = [ODD, NONE]
        told = outcomes(Sides(FLIP, FLIP), machines)
        told.clear()
        self.same(len(outcomes(Sides(FLIP, FLIP), machines)), 4)
        self.same(machines, [ODD, NONE])

    def test_errors(self):
        for game in (SHARED, Some(FLIP, ODD), Every(FLIP, ODD)):
            for machines in ([ODD], [], [None], [Machine.none("ox")], [ODD, ODD]):
                self.raises(BadGame("kind"), outcomes, game, machines)
        sides = Sides(FLIP, FLIP)
        for machines in ([], [ODD], [ODD] * 3, [ODD, None], [None, Machine.none("ox")]):
            self.raises(BadGame("machines"), outcomes, sides, machines)
        self.raises(OtherSigns("machines"), outcomes, sides, [ODD, Machine.none("ox")])
        self.raises(OtherSigns("machines"), outcomes, sides, [Machine.none("ox")] * 2)
