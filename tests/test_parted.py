"""What shows that machines are least, and that beginnings are parted; each thing that does not."""

from rowgames.books import Book
from rowgames.games import Every, Shared, Sides, Some
from rowgames.least import least
from rowgames.ledgers import ledger_of
from rowgames.machines import Machine
from rowgames.parted import shows_least, shows_parted
from rowgames.rules import Rule
from rowgames.tables import look
from helpers import FLIP, ODD, SHARED, XO, Case, values_but
from oracle import small_games
from test_least import HARD

FOUND = least(SHARED, 2)
BAR = least(Shared(Book(XO, Rule("xx", "oo"))), 3)
PAIRS = Shared(Book(XO, Rule("xx", "oo")))


def parts_of(found):
    """What a Least shows."""
    return [found.machines, found.table, found.members, found.endings]


def bars_of(found):
    """What a Parted shows."""
    return [found.seat, found.beginnings, found.endings, found.ledger]


def changed(parts, at, value):
    """The parts with another one at an index."""
    return parts[:at] + [value] + parts[at + 1:]


class TestShowsLeast(Case):
    def shows(self, game, parts):
        found = shows_least(game, *parts)
        self.assertIsInstance(found, bool)
        return found

    def cases(self):
        found = [(game, least(game, 9)) for game in small_games() + HARD]
        return [(game, parts_of(one)) for game, one in found if one]

    def test_what_least_tells(self):
        self.assertGreater(len(self.cases()), 10)
        for game, parts in self.cases():
            self.same(self.shows(game, parts), True)
            self.same(self.shows(game, changed(parts, 0, list(parts[0]))), True)
            self.same(self.shows(game, changed(parts, 1, parts[1][::-1])), True)

    def test_machines(self):
        for game, parts in self.cases():
            for machines in ((), parts[0] + (ODD,), parts[0][1:], (None,) * game.seats, None, ODD,
                             tuple(Machine.none("ab") for _ in parts[0]), [machine.steps for machine in parts[0]]):
                self.same(self.shows(game, changed(parts, 0, machines)), False)
        sides, parts = [(game, parts) for game, parts in self.cases() if game.seats == 2 and len(set(map(len, parts[0]))) > 1][0]
        self.same(self.shows(sides, changed(parts, 0, parts[0][::-1])), False)
        self.same(self.shows(sides, changed(parts, 2, parts[2][::-1])), False)
        self.same(self.shows(sides, changed(parts, 3, parts[3][::-1])), False)
        self.same(self.shows(SHARED, [(Machine.none("ox"),), (), ((),), ((),)]), False)
        self.same(self.shows(SHARED, changed(parts_of(FOUND), 0, (~ODD,))), False)

    def test_right_machines_that_are_not_least(self):
        wide = Machine("xo", [[1, 2], [2, 1], [1, 0]], [False, True, False])
        table = look(SHARED, wide).table
        for endings in (((0, 1, ""), (0, 2, ""), (1, 2, "")), ((0, 1, ""), (0, 2, "x"), (1, 2, "")), ((0, 1, ""), (1, 2, ""))):
            self.same(self.shows(SHARED, [(wide,), table, (("", "x", "o"),), (endings,)]), False)

    def test_tables(self):
        for game, parts in self.cases():
            for table in (parts[1][1:], parts[1] + parts[1][:1], list(parts[1]), None, (), parts[1] + (None,)):
                self.same(self.shows(game, changed(parts, 1, table)), False)

    def test_members(self):
        for game, parts in self.cases():
            members = parts[2]
            for other in (members[1:], members + ((),), list(members), None, "", (), [list(rows) for rows in members],
                          tuple(list(rows) for rows in members), tuple("".join(rows) for rows in members)):
                self.same(self.shows(game, changed(parts, 2, other)), False)
            for seat, rows in enumerate(members):
                others = [rows[1:], rows[:-1], rows + rows[:1], rows + ("x",), list(rows), None, ""]
                others += [rows[:at] + (value,) + rows[at + 1:] for at in range(len(rows))
                           for value in (None, "q", 0, ("x",), ["x"], "x ")]
                if len(rows) > 1:
                    others += [rows[::-1], rows[1:] + rows[:1], rows[:-1] + rows[:1]]
                for other in others:
                    self.same(self.shows(game, changed(parts, 2, members[:seat] + (other,) + members[seat + 1:])), False)

    def test_other_rows_to_the_same_state(self):
        parts = parts_of(FOUND)
        self.same(self.shows(SHARED, changed(parts, 2, (("xx", "oxo"),))), True)
        self.same(self.shows(SHARED, changed(parts, 2, (("o", "xoxx"),))), True)
        self.same(self.shows(SHARED, changed(parts, 2, (("o", "xox"),))), False)

    def test_other_endings(self):
        parts = parts_of(FOUND)
        for z in ("o", "x", "xx", "oxo"):
            self.same(self.shows(SHARED, changed(parts, 3, (((0, 1, z),),))), True)
        some = Some(FLIP, Machine.counting("xo", "x", 2))
        parts = parts_of(least(some, 3))
        self.same(self.shows(some, parts), True)
        self.same(parts[3], (((0, 1, "x"), (0, 2, ""), (1, 2, "")),))
        for z in ("", "xx", "o"):
            self.same(self.shows(some, changed(parts, 3, (((0, 1, z), (0, 2, ""), (1, 2, "")),))), False)

    def test_endings(self):
        for game, parts in self.cases():
            endings = parts[3]
            for other in (endings[1:], endings + ((),), list(endings), None, "", ()):
                self.same(self.shows(game, changed(parts, 3, other)), False)
            for seat, triples in enumerate(endings):
                others = [list(triples), None, triples + triples[:1] if triples else ((0, 1, ""),), triples + ((0, 1, ""),)]
                if triples:
                    i, j, z = triples[-1]
                    others += [triples[1:], triples[:-1], triples[:-1] + triples[-2:] if len(triples) > 1 else ()]
                    others += [triples[:-1] + (other,) for other in
                               ((j, i, z), (i, j), (i, j, z, z), [i, j, z], (i, j, "q"), (i, j, None), (i, i, z), (i, j + 1, z),
                                (str(i), j, z), (None, j, z), (i, None, z), (i, j, (z,)), None, ())]
                    if i in (0, 1):
                        others.append(triples[:-1] + ((bool(i), j, z),))
                    if j == 1:
                        others.append(triples[:-1] + ((i, True, z),))
                if len(triples) > 1:
                    others += [triples[::-1], triples[1:] + triples[:1]]
                for other in others:
                    self.same(self.shows(game, changed(parts, 3, endings[:seat] + (other,) + endings[seat + 1:])), False)

    def test_any_values(self):
        parts = parts_of(FOUND)
        for value in values_but():
            for at in range(4):
                self.same(self.shows(SHARED, changed(parts, at, value)), False)
            self.same(self.shows(SHARED, changed(parts, 0, (value,))), value is ODD)
            self.same(self.shows(SHARED, changed(parts, 1, (value,))), False)
            self.same(self.shows(SHARED, changed(parts, 2, (value,))), False)
            self.same(self.shows(SHARED, changed(parts, 2, (("", value),))), value in ODD)
            self.same(self.shows(SHARED, changed(parts, 3, (value,))), False)
            self.same(self.shows(SHARED, changed(parts, 3, ((value,),))), False)
            ending = isinstance(value, str) and value.strip("xo") == ""
            self.same(self.shows(SHARED, changed(parts, 3, (((0, 1, value),),))), ending)
            self.same(self.shows(SHARED, [value] * 4), False)

    def test_by_names(self):
        self.same(shows_least(endings=FOUND.endings, members=FOUND.members, table=FOUND.table, machines=FOUND.machines,
                              game=SHARED), True)


class TestShowsParted(Case):
    def shows(self, game, parts):
        found = shows_parted(game, *parts)
        self.assertIsInstance(found, bool)
        return found

    def cases(self):
        found = [(game, least(game, most)) for game in small_games() + HARD for most in (1, 2, 5)]
        return [(game, bars_of(one)) for game, one in found if not one]

    def test_what_least_tells(self):
        self.assertGreater(len(self.cases()), 15)
        self.assertEqual({parts[0] for _, parts in self.cases()}, {0, 1})
        for game, parts in self.cases():
            kept = dict(parts[3])
            self.same(self.shows(game, parts), True)
            self.same(parts[3], kept)

    def test_seats(self):
        for game, parts in self.cases():
            for seat in (-1, 2, 10 ** 59, True, False, None, "0", (0,), 0.0):
                self.same(self.shows(game, changed(parts, 0, seat)), False)
            self.same(self.shows(game, changed(parts, 0, 1 - parts[0])), False)

    def test_both_seats(self):
        sides = Sides(FLIP, FLIP)
        ledger = {**ledger_of(sides, "x", 0), **ledger_of(sides, "x", 1), **ledger_of(sides, "", 0), **ledger_of(sides, "", 1)}
        for seat in (0, 1):
            self.same(self.shows(sides, [seat, ("", "x"), ((0, 1, ""),), ledger]), True)

    def test_beginnings(self):
        for game, parts in self.cases():
            rows = parts[1]
            for other in (rows[1:], rows[:-1], rows + ("",), list(rows), None, "", (), rows[:1], rows[::-1] + ("x",)):
                self.same(self.shows(game, changed(parts, 1, other)), False)
            for at in range(len(rows)):
                for value in (None, "q", 0, (rows[at],), [rows[at]], rows[(at + 1) % len(rows)]):
                    self.same(self.shows(game, changed(parts, 1, rows[:at] + (value,) + rows[at + 1:])), False)
        for rows, endings in (((), ()), (("",), ()), (("x",), ())):
            self.same(self.shows(SHARED, [0, rows, endings, ledger_of(SHARED, "x")]), False)

    def test_endings(self):
        for game, parts in self.cases():
            triples = parts[2]
            i, j, z = triples[-1]
            others = [list(triples), None, "", (), triples[1:], triples[:-1], triples + triples[:1], triples + triples[-1:]]
            others += [triples[:-1] + (other,) for other in
                       ((j, i, z), (i, j), (i, j, z, z), [i, j, z], (i, j, "q"), (i, j, None), (i, i, z), (i, j + 1, z),
                        (str(i), j, z), (None, j, z), (i, None, z), (i, j, (z,)), None, ())]
            others += [triples[1:] + triples[:1]] * (len(triples) > 1)
            others += [triples[:-1] + ((bool(i), j, z),)] * (i < 2) + [triples[:-1] + ((i, True, z),)] * (j == 1)
            for other in others:
                self.same(self.shows(game, changed(parts, 2, other)), False)

    def test_endings_that_part_nothing(self):
        ledger = {**ledger_of(SHARED, "xxx"), **ledger_of(SHARED, "xo")}
        for z, wanted in (("", True), ("x", True), ("o", True), ("xx", False)):
            self.same(self.shows(SHARED, [0, ("", "x"), ((0, 1, z),), ledger]), z in ("", "x", "o") and wanted
                      and ("" + z, 0) in ledger and ("x" + z, 0) in ledger)
        ledger.update(ledger_of(SHARED, "ooxx"))
        self.same(self.shows(SHARED, [0, ("oo", "xx"), ((0, 1, ""),), ledger]), False)
        self.same(self.shows(SHARED, [0, ("oo", "oo"), ((0, 1, ""),), ledger]), False)
        self.same(self.shows(SHARED, [0, ("oo", "xo"), ((0, 1, ""),), ledger]), True)

    def test_ledgers(self):
        for game, parts in self.cases():
            ledger = parts[3]
            for position, (won, move) in list(ledger.items())[::5]:
                for entry in ((not won, move), [won, move], (int(won), move), (won, (0, 9)), (won,), None):
                    self.same(self.shows(game, changed(parts, 3, {**ledger, position: entry})), False)
            for key in (("q", 0), ("", 2), ("", -1), ("", None), "x", None, ("",)):
                self.same(self.shows(game, changed(parts, 3, {**ledger, key: (False, None)})), False)
            for at in (0, 1):
                i, j, z = parts[2][0]
                position = (parts[1][(i, j)[at]] + z, parts[0])
                other = {one: entry for one, entry in ledger.items() if one != position}
                self.same(self.shows(game, changed(parts, 3, other)), False)
            self.same(self.shows(game, changed(parts, 3, list(ledger.items()))), False)
            self.same(self.shows(game, changed(parts, 3, {})), False)

    def test_an_entry_that_is_not_right_by_one_step(self):
        parts = bars_of(BAR)
        self.same(self.shows(PAIRS, parts), True)
        self.same(self.shows(PAIRS, changed(parts, 3, {**BAR.ledger, ("oxo", 0): (True, None)})), False)
        self.same(self.shows(PAIRS, changed(parts, 3, {**BAR.ledger, ("oxo", 0): (False, None)})), True)
        self.same(self.shows(PAIRS, changed(parts, 3, {**BAR.ledger, ("xxxxo", 0): (True, (1, 0))})), False)

    def test_any_values(self):
        parts = bars_of(BAR)
        for value in values_but():
            for at in range(4):
                self.same(self.shows(PAIRS, changed(parts, at, value)), at == 0 and value == 0 and type(value) is int)
            self.same(self.shows(PAIRS, changed(parts, 1, (value, value))), False)
            self.same(self.shows(PAIRS, changed(parts, 2, (value,) * 6)), False)
            self.same(self.shows(PAIRS, changed(parts, 2, ((0, 1, value),) + BAR.endings[1:])), value == "x")
            self.same(self.shows(PAIRS, [0, value, value, value]), False)

    def test_by_names(self):
        self.same(shows_parted(ledger=BAR.ledger, endings=BAR.endings, beginnings=BAR.beginnings, seat=0, game=PAIRS), True)
        every = Every(FLIP, ODD)
        bar = least(every, 1)
        self.same(bool(bar) or self.shows(every, bars_of(bar)), True)
