"""The errors of the package, all of them below GameError.

The messages do not show the fields: these may be any values, and some have no text of their own.
"""


class GameError(ValueError):
    """The base of all errors of the package."""


class BadInput(GameError):
    """What was passed is not what it should be."""


class NoAnswer(GameError):
    """What was asked for is not to be had."""


class BadSigns(BadInput):
    """Signs, pairs of signs and weights, or names of signs are wrong."""

    def __init__(self, part):
        super().__init__("these signs, pairs or names are wrong")
        self.part = part


class BadRow(BadInput):
    """A value is no row: at is where it is wrong."""

    def __init__(self, at):
        super().__init__("this is no row of these signs")
        self.at = at


class BadRule(BadInput):
    """A part of a rule is wrong."""

    def __init__(self, part):
        super().__init__("a part of the rule is wrong")
        self.part = part


class BadBook(BadInput):
    """A rule of a book is wrong, or with None the book itself."""

    def __init__(self, at):
        super().__init__("the book or a rule of it is wrong")
        self.at = at


class Heavier(BadInput):
    """A rule of a book does not make rows lighter."""

    def __init__(self, at):
        super().__init__("a rule does not make rows lighter")
        self.at = at


class Unlessened(BadInput):
    """The weights of two stretches of which the new one is not lighter."""

    def __init__(self, old, new):
        super().__init__("the new stretch is not lighter than the old one")
        self.old = old
        self.new = new


class BadMove(BadInput):
    """A part of a move is wrong, or the place of a change."""

    def __init__(self, part):
        super().__init__("a part of the move or the place is wrong")
        self.part = part


class BadMachine(BadInput):
    """A part of a machine is wrong."""

    def __init__(self, part):
        super().__init__("a part of the machine is wrong")
        self.part = part


class BadGame(BadInput):
    """A part of a game, or the kind of a game, is wrong."""

    def __init__(self, part):
        super().__init__("a part of the game or its kind is wrong")
        self.part = part


class BadSeat(BadInput):
    """A value is no seat of a game."""

    def __init__(self, seat):
        super().__init__("this is no seat of the game")
        self.seat = seat


class OtherSigns(BadInput):
    """Two things do not have the same signs."""

    def __init__(self, part):
        super().__init__("the signs are not the same")
        self.part = part


class BadNumber(BadInput):
    """A value is no number within the bounds."""

    def __init__(self, part):
        super().__init__("this is no number within the bounds")
        self.part = part


class BadText(BadInput):
    """A word of a text cannot stand there."""

    def __init__(self, line, word):
        super().__init__("a word of the text cannot stand there")
        self.line = line
        self.word = word


class BadLine(BadInput):
    """A word of a line cannot stand there."""

    def __init__(self, word):
        super().__init__("a word of the line cannot stand there")
        self.word = word


class TooMany(NoAnswer):
    """There are more things than the bound lets be."""

    def __init__(self, what, most):
        super().__init__("there are more than the bound lets be")
        self.what = what
        self.most = most


class NoMove(NoAnswer):
    """There is no move from a row."""

    def __init__(self, row):
        super().__init__("there is no move from the row")
        self.row = row


class NotWon(NoAnswer):
    """A row is not won."""

    def __init__(self, row):
        super().__init__("the row is not won")
        self.row = row


class NotRight(NoAnswer):
    """A machine is wrong at a row."""

    def __init__(self, row, seat):
        super().__init__("a machine is wrong at the row")
        self.row = row
        self.seat = seat


class NotKept(NoAnswer):
    """A move leads from a row out of its set."""

    def __init__(self, row):
        super().__init__("a move leads out of the set of the row")
        self.row = row


class NotThere(NoAnswer):
    """What is asked for is not there."""

    def __init__(self, what):
        super().__init__("what is asked for is not there")
        self.what = what


class NothingPlayed(NoAnswer):
    """There is no played move to take back."""

    def __init__(self):
        super().__init__("there is no played move to take back")
