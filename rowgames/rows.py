"""Rows that are played on and changed."""

from rowgames.books import Book
from rowgames.errors import BadBook, BadMove, BadRow, NothingPlayed
from rowgames.letters import check_row, is_from_to, weigh
from rowgames.moving import moves_from, row_ahead_of_move, row_behind_move


class Trial:
    """A block behind which a row is again as it was when the block began."""

    def __init__(self, row):
        self.row = row

    def __enter__(self):
        self._text = self.row.text
        self._played = self.row.played
        return self.row

    def __exit__(self, kind, value, trace):
        row = self.row
        row._text = self._text
        row._played = self._played


class Row:
    """A row that changes by moves and by hand."""

    def __init__(self, book, text=""):
        if not isinstance(book, Book):
            raise BadBook(None)
        check_row(book.weights.signs, text)
        self.book = book
        self._text = text
        self._played = ()

    @property
    def text(self):
        """The row as a string."""
        return self._text

    @property
    def weight(self):
        """The weight of the row."""
        return weigh(self.book.weights.pairs, self._text)

    @property
    def played(self):
        """The moves that were played and not taken back."""
        return self._played

    def __len__(self):
        return len(self._text)

    def __str__(self):
        return str(self._text)

    def __eq__(self, other):
        return isinstance(other, Row) and self.book == other.book and self._text == other._text

    def __contains__(self, x):
        return isinstance(x, str) and x in self._text

    def __getitem__(self, at):
        check_index(self._text, at)
        return self._text[at]

    def __iter__(self):
        raise TypeError("rows are not iterated over")

    def __setitem__(self, at, worth):
        check_index(self._text, at)
        check_row(self.book.weights.signs, worth)
        if isinstance(at, int) and len(worth) != 1:
            raise BadRow(0)
        signs = list(self._text)
        # One sign goes to an index, and the signs of any text to a slice, as with lists.
        signs[at] = worth
        self._text = "".join(signs)
        self._played = ()

    def __iadd__(self, other):
        check_row(self.book.weights.signs, other)
        self._text = self._text + other
        self._played = ()
        return self

    def moves(self):
        """The moves from the row, ascending."""
        for move in moves_from(self.book.rules, self._text):
            yield move

    def play(self, move):
        """Makes a move and returns the text behind it."""
        self._text = row_behind_move(self.book.rules, self._text, move)
        self._played = self._played + (move,)
        return self._text

    def back(self):
        """Takes the last played move back and returns it."""
        if self._played == ():
            raise NothingPlayed()
        move = self._played[-1]
        self._text = row_ahead_of_move(self.book.rules, self._text, move)
        self._played = self._played[:-1]
        return move

    def trial(self):
        """A context for one block, behind which text and played moves are as ahead of it."""
        return Trial(self)

    def tried(self, ask):
        """What a function returns of the row, which is then as it was."""
        with self.trial() as same:
            return ask(same)


def check_index(text, at):
    """Raise BadMove for an integer that is no index; a slice always fits."""
    if isinstance(at, int) and not is_from_to(at, -len(text), len(text) - 1):
        raise BadMove("place")
