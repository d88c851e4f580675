"""Kept: sets of rows that no move leaves, and machines that are right at all rows of such a set."""

from rowgames.ends import Ends
from rowgames.errors import NotKept, OtherSigns
from rowgames.games import Equation, Shared
from rowgames.machines import Machine
from rowgames.moving import moves_from, row_of_move
from rowgames.showing import is_closed, is_stand, shows_first, shows_table
from rowgames.standing import Ground, are_machines, check_machines
from rowgames.surveying import Survey, told_set
from rowgames.tables import Right, Wrong
from rowgames.walking import passed_pairs, walk


class Keeping:
    """The base of what is told of a book and a set of rows."""

    def __bool__(self):
        return isinstance(self, Kept)


class Kept(Keeping):
    """Every move from a row of the set leads to a row of the set: table has all stands."""

    def __init__(self, table):
        self.table = table

    def __bool__(self):
        return True


class Leaves(Keeping):
    """The first row of the set from which a move leads out, and the first such move."""

    def __init__(self, row, move):
        self.row = row
        self.move = move

    def __bool__(self):
        return False


class RightAmong(Right):
    """No machine is wrong at a row of the set: table has all pairs, kept a table for each seat."""

    def __init__(self, game, machines, table, kept):
        super().__init__(game, machines, table)
        self.kept = kept

    def __bool__(self):
        return True

    def __eq__(self, other):
        if not isinstance(other, RightAmong) or not self.is_of(other):
            return False
        return self.table == other.table and self.kept == other.kept


class WrongAmong(Wrong):
    """The first row of the set at which a machine is wrong, which bounds and kept show."""

    def __init__(self, game, machines, row, seat, bounds, kept):
        super().__init__(game, machines, row, seat, bounds)
        self.kept = kept

    def __bool__(self):
        return False

    def __eq__(self, other):
        if not isinstance(other, WrongAmong) or not self.is_of(other):
            return False
        return self.has_place_of(other) and self.kept == other.kept


def kept(book, machine, *, most=2000):
    """Whether the rows that a machine tells are kept by a book: a Kept or a Leaves."""
    if machine.signs != book.weights.signs:
        raise OtherSigns("machine")
    game = Shared(book)
    survey = Survey(Ends(game), game, (machine,), None)
    outside = told_set(machine.told, False)
    codes = []
    for code, row in walk(survey, most):
        if survey.is_told(code, 0) and survey.moved(code, 0) & outside > 0:
            return Leaves(row, move_out(book, machine, row))
        codes.append(code)
    return Kept(tuple([survey.stand_of_code(code) for code in codes]))


def is_keeping(ground, stand):
    """Whether the rows with a stand are not told, or all rows behind their moves are."""
    return not ground.is_told(stand, 0) or all(ground.answers_behind(stand, 0))


def move_out(book, machine, row):
    """The first move from a row to one that a machine does not tell."""
    rules = book.rules
    moves = [move for move in moves_from(rules, row) if not machine[row_of_move(rules, row, move)]]
    return moves[0]


def shows_kept(book, machine, table):
    """Whether any value is a list or tuple of stands that shows that the told rows are kept."""
    ground = Ground(Shared(book), (machine,))
    if not isinstance(table, (list, tuple)) or not all([is_stand(ground, stand) for stand in table]):
        return False
    if not is_closed(ground, Machine.every(machine.signs), [(stand, 0) for stand in table]):
        return False
    return all([is_keeping(ground, stand) for stand in table])


def look_among(game, among, *machines, most=2000):
    """Whether no machine is wrong at a row that among tells: a RightAmong or a WrongAmong."""
    if among.signs != game.weights.signs:
        raise OtherSigns("among")
    check_machines(game, machines)
    tables = tuple([table_of_kept(book, among, most) for book in game.books])
    passed, row, seat = passed_pairs(Survey(Ends(game), game, machines, among), Equation(game), among, most)
    if row is None:
        return RightAmong(game, machines, tuple([pair for pair, _ in passed]), tables)
    return WrongAmong(game, machines, row, seat, tuple(passed), tables)


def table_of_kept(book, among, most):
    """The table that shows that the rows of a set are kept by a book; raises NotKept."""
    found = kept(book, among, most=most)
    if not found:
        raise NotKept(found.row)
    return found.table


def shows_right_among(game, among, machines, table, kept):
    """Whether any values show that no machine is wrong at a row that among tells."""
    if not shows_all_kept(game, among, kept) or not are_machines(game, machines):
        return False
    return shows_table(Ground(game, machines), among, table)


def shows_wrong_among(game, among, machines, row, seat, bounds, kept):
    """Whether any values show the first row that among tells and at which a machine is wrong."""
    if not shows_all_kept(game, among, kept) or not are_machines(game, machines):
        return False
    return shows_first(Ground(game, machines), among, row, seat, bounds)


def shows_all_kept(game, among, value):
    """Whether any value is a list or tuple of what shows, for each seat, that a set is kept."""
    if not isinstance(among, Machine) or among.signs != game.weights.signs:
        return False
    if not isinstance(value, (list, tuple)) or len(value) != game.seats:
        return False
    return all([shows_kept(book, among, table) for book, table in zip(game.books, value)])
