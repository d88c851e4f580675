"""The four kinds of games."""

from rowgames.books import Book
from rowgames.errors import BadGame, BadSeat, OtherSigns
from rowgames.letters import is_from_to
from rowgames.machines import Machine


class Game:
    """The base of all games. Each kind below has all the methods of a game in its own body."""

    def __init__(self, books, goal, last):
        self.weights = books[0].weights
        self.books = books
        self.seats = len(books)
        # For each seat the one whose machine judges: of two seats the other one.
        self.judges = (0,) if len(books) == 1 else (1, 0)
        self.goal = goal
        self.last = last
        self._longest = max([int(book.longest) for book in books])

    @property
    def longest(self):
        """The length of the longest old stretch of the books, 0 without rules."""
        return self._longest

    def book_of(self, seat):
        """The book by which a seat moves."""
        check_seat(self, seat)
        return self.books[seat]

    def judge(self, seat):
        """The seat whose machine judges the rows behind the moves of a seat."""
        check_seat(self, seat)
        return self.judges[seat]

    def reads(self, is_goal, answers):
        """The right side of the equation at a row."""
        raise NotImplementedError("each kind of game tells this itself")

    def __neg__(self):
        raise NotImplementedError("each kind of game tells this itself")

    def renamed(self, names):
        """The game with the letters that a dict gives the signs."""
        raise NotImplementedError("each kind of game tells this itself")

    def __eq__(self, other):
        return isinstance(other, Game) and self.has_parts_of(other)

    def has_parts_of(self, other):
        """Whether another game has the same books, goal and last."""
        return self.books == other.books and self.goal == other.goal and self.last == other.last


class Alone(Game):
    """A game of one player with a goal."""


class Some(Alone):
    """A row is won if it is a goal row or some move leads to a won row."""

    def __init__(self, book, goal):
        check_alone(book, goal)
        super().__init__((book,), goal, None)

    def book_of(self, seat):
        """The book by which a seat moves."""
        return super().book_of(seat)

    def judge(self, seat):
        """The seat whose machine judges the rows behind the moves of a seat."""
        return super().judge(seat)

    def reads(self, is_goal, answers):
        """The right side of the equation at a row."""
        return is_goal or any(answers)

    def __neg__(self):
        return Some(-self.books[0], self.goal.turned())

    def renamed(self, names):
        """The game with the letters that a dict gives the signs."""
        return Some(self.books[0].renamed(names), self.goal.renamed(names))

    def __eq__(self, other):
        return isinstance(other, Some) and self.has_parts_of(other)


class Every(Alone):
    """A row is won if each play that is played to its end ends in a goal row."""

    def __init__(self, book, goal):
        check_alone(book, goal)
        super().__init__((book,), goal, None)

    def book_of(self, seat):
        """The book by which a seat moves."""
        return super().book_of(seat)

    def judge(self, seat):
        """The seat whose machine judges the rows behind the moves of a seat."""
        return super().judge(seat)

    def reads(self, is_goal, answers):
        """The right side of the equation at a row."""
        if len(answers) == 0:
            return is_goal
        return all(answers)

    def __neg__(self):
        return Every(-self.books[0], self.goal.turned())

    def renamed(self, names):
        """The game with the letters that a dict gives the signs."""
        return Every(self.books[0].renamed(names), self.goal.renamed(names))

    def __eq__(self, other):
        return isinstance(other, Every) and self.has_parts_of(other)


class Duel(Game):
    """A game of two players by turns, in which who cannot move loses or, if last is False, wins."""


class Shared(Duel):
    """Both players move by one book."""

    def __init__(self, book, *, last=True):
        if not isinstance(book, Book):
            raise BadGame("book")
        check_last(last)
        super().__init__((book,), None, last)

    def book_of(self, seat):
        """The book by which a seat moves."""
        return super().book_of(seat)

    def judge(self, seat):
        """The seat whose machine judges the rows behind the moves of a seat."""
        return super().judge(seat)

    def reads(self, is_goal, answers):
        """The right side of the equation at a row."""
        return reads_duel(self.last, answers)

    def __neg__(self):
        return Shared(-self.books[0], last=self.last)

    def renamed(self, names):
        """The game with the letters that a dict gives the signs."""
        return Shared(self.books[0].renamed(names), last=self.last)

    def __eq__(self, other):
        return isinstance(other, Shared) and self.has_parts_of(other)


class Sides(Duel):
    """Seat 0 moves by the left book, seat 1 by the right one."""

    def __init__(self, left, right, *, last=True):
        if not isinstance(left, Book):
            raise BadGame("left")
        if not isinstance(right, Book):
            raise BadGame("right")
        if left.weights != right.weights:
            raise OtherSigns("right")
        check_last(last)
        super().__init__((left, right), None, last)

    def book_of(self, seat):
        """The book by which a seat moves."""
        return super().book_of(seat)

    def judge(self, seat):
        """The seat whose machine judges the rows behind the moves of a seat."""
        return super().judge(seat)

    def reads(self, is_goal, answers):
        """The right side of the equation at a row."""
        return reads_duel(self.last, answers)

    def __neg__(self):
        return Sides(-self.books[0], -self.books[1], last=self.last)

    def renamed(self, names):
        """The game with the letters that a dict gives the signs."""
        return Sides(self.books[0].renamed(names), self.books[1].renamed(names), last=self.last)

    def __eq__(self, other):
        return isinstance(other, Sides) and self.has_parts_of(other)


def check_seat(game, seat):
    """Raise BadSeat for any value that is no seat of a game."""
    if not is_from_to(seat, 0, game.seats - 1):
        raise BadSeat(seat)


def check_alone(book, goal):
    """Raise what a book and a goal, any values, do not let pass."""
    if not isinstance(book, Book):
        raise BadGame("book")
    if not isinstance(goal, Machine):
        raise BadGame("goal")
    if goal.signs != book.weights.signs:
        raise OtherSigns("goal")


def check_last(last):
    """Raise BadGame for any value that is no bool."""
    if not isinstance(last, bool):
        raise BadGame("last")


def reads_duel(last, answers):
    """Whether a row is won for who is to move in a duel."""
    if len(answers) == 0:
        return not last
    return not all(answers)


class Equation:
    """The right side of the equation of a game: it goes by which answers there are, and perhaps by the goal."""

    def __init__(self, game):
        self.game = game
        self.readings = {}

    def read_by(self, some):
        """The right side for a row that is no goal row, and for one that is.

        It goes by whether some answer is False and whether some is True.
        """
        if some not in self.readings:
            answers = [answer for answer in (False, True) if some[answer]]
            self.readings[some] = (self.game.reads(False, answers), self.game.reads(True, answers))
        return self.readings[some]
