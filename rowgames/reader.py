"""Reading texts. The first word that cannot stand where it stands raises BadText.

What the words tell is made only when the whole text is read.
"""

from rowgames.books import Book
from rowgames.errors import BadText
from rowgames.games import Every, Shared, Sides, Some
from rowgames.machines import Machine
from rowgames.rules import Rule
from rowgames.signs import Weights
from rowgames.words import Words, is_number, pairs_ahead


class Lines:
    """The lines of a text. In the place of a line behind the last one stands an empty one."""

    def __init__(self, text):
        if not isinstance(text, str):
            raise BadText(0, 0)
        self.lines = text.split("\n")
        self.number = 0

    def is_ended(self):
        """Whether all lines are taken."""
        return self.number == len(self.lines)

    def ahead(self):
        """The words of the line that is to be taken."""
        return Words("" if self.is_ended() else self.lines[self.number], self.number)

    def first_word(self):
        """The first word of the line that is to be taken."""
        words = self.ahead()
        return words.ahead()

    def taken(self):
        """The words of the next line."""
        words = self.ahead()
        self.number = self.number + 1
        return words

    def end(self):
        """Nothing: a further line is refused."""
        if not self.is_ended():
            raise BadText(self.number, 0)


def read_book(text):
    """The book of a text."""
    lines = Lines(text)
    pairs = pairs_of(lines)
    rules = rules_of(lines, "rule")
    lines.end()
    return book_of(Weights.of(pairs), rules)


def read_machine(text):
    """The machine of a text."""
    lines = Lines(text)
    signs, steps, told = parts_of_machine(lines)
    lines.end()
    return Machine(signs, steps, told)


def read_game(text):
    """The game of a text."""
    lines = Lines(text)
    words = lines.taken()
    kind = words.one_of("some", "every", "shared", "sides")
    if kind in ("some", "every"):
        words.end()
        return game_alone(lines, kind)
    words.one_of("last")
    ending = words.one_of("wins", "loses")
    words.end()
    if kind == "shared":
        return shared_game(lines, ending == "wins")
    return sides_game(lines, ending == "wins")


def read_ledger(text):
    """The ledger of a text."""
    lines = Lines(text)
    if text == "none":
        return {}
    ledger = {}
    while not lines.is_ended():
        words = lines.taken()
        row = words.a_row()
        if is_number(words.ahead()) and (row, int(words.ahead())) in ledger:
            words.refuse()
        seat = words.a_number()
        won = words.one_of("won", "lost") == "won"
        ledger[(row, seat)] = (won, move_of(words))
        words.end()
    return ledger


def read(text):
    """The book, machine or game of a text, told by its first word."""
    lines = Lines(text)
    word = lines.first_word()
    if word == "signs":
        return read_book(text)
    if word == "machine":
        return read_machine(text)
    return read_game(text)


def game_alone(lines, kind):
    """The game of one player whose lines come."""
    pairs = pairs_of(lines)
    rules = rules_of(lines, "rule")
    signs, steps, told = parts_of_machine(lines)
    lines.end()
    book = book_of(Weights.of(pairs), rules)
    goal = Machine(signs, steps, told)
    if kind == "some":
        return Some(book, goal)
    return Every(book, goal)


def shared_game(lines, last):
    """The game of two players and one book whose lines come."""
    pairs = pairs_of(lines)
    rules = rules_of(lines, "rule")
    lines.end()
    return Shared(book_of(Weights.of(pairs), rules), last=last)


def sides_game(lines, last):
    """The game of two players and two books whose lines come."""
    pairs = pairs_of(lines)
    left = rules_of(lines, "left")
    right = rules_of(lines, "right")
    lines.end()
    weights = Weights.of(pairs)
    left_book = book_of(weights, left)
    return Sides(left_book, book_of(weights, right), last=last)


def pairs_of(lines):
    """The pairs of signs and weights of the next line."""
    words = lines.taken()
    words.one_of("signs")
    return pairs_ahead(words)


def rules_of(lines, word):
    """The texts of the rules of the next lines that begin with a word."""
    rules = []
    while lines.first_word() == word:
        words = lines.taken()
        words.one_of(word)
        rules.append(words.a_rule())
        words.end()
    return rules


def parts_of_machine(lines):
    """Signs, steps and told of the machine whose lines come."""
    words = lines.taken()
    words.one_of("machine")
    signs = words.some_signs()
    words.end()
    steps = []
    told = []
    while told == [] or lines.first_word() in ("told", "not"):
        words = lines.taken()
        told.append(words.one_of("told", "not") == "told")
        steps.append([words.a_number() for _ in signs])
        words.end()
    return signs, steps, told


def move_of(words):
    """The move that the next words tell, or None."""
    if words.ahead() == "-":
        words.one_of("-")
        return None
    place = words.a_number()
    return (place, words.a_number())


def book_of(weights, rules):
    """The book of rules that are given by their texts."""
    return Book.of(weights, [Rule.read(text) for text in rules])
