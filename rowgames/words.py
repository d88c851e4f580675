"""Words: the words of lines, taken one after another, and how rows and moves are written."""

from rowgames.errors import BadLine, BadText
from rowgames.letters import LETTERS, are_letters, is_letter
from rowgames.rules import is_text_of_rule


class Words:
    """The words of a line. The first one that cannot stand where it stands is refused.

    In the place of a word behind the last one stands an empty word, which fits nowhere.
    """

    def __init__(self, text, line):
        self.words = text.split(" ")
        # The number of the line in its text, None for a line of the desk.
        self.line = line
        self.at = 0

    def is_ended(self):
        """Whether all words are taken."""
        return self.at == len(self.words)

    def ahead(self):
        """The word that is to be taken."""
        return "" if self.is_ended() else self.words[self.at]

    def refuse(self):
        """Raise what tells that the word that is to be taken cannot stand there."""
        if self.line is None:
            raise BadLine(self.at)
        raise BadText(self.line, self.at)

    def taken(self, fits):
        """The next word if it fits."""
        if not fits:
            self.refuse()
        self.at = self.at + 1
        return self.words[self.at - 1]

    def one_of(self, *choices):
        """One of these words."""
        return self.taken(self.ahead() in choices)

    def a_sign(self):
        """A letter."""
        return self.taken(is_letter(self.ahead()))

    def some_signs(self):
        """One to four letters."""
        return self.taken(are_letters(self.ahead(), 1, 4))

    def a_name(self):
        """One to eight letters."""
        return self.taken(are_letters(self.ahead(), 1, 8))

    def a_rule(self):
        """The text of a rule."""
        return self.taken(is_text_of_rule(self.ahead()))

    def a_number(self):
        """An integer from 0, of at most nine figures."""
        return int(self.taken(is_number(self.ahead())))

    def a_seat(self):
        """A seat, 0 or 1."""
        return int(self.one_of("0", "1"))

    def a_row(self):
        """A row of any letters."""
        word = self.taken(is_word_of_row(self.ahead()))
        return "" if word == "-" else word

    def end(self):
        """Nothing: a further word is refused."""
        if not self.is_ended():
            self.refuse()


def is_number(word):
    """Whether a word is a number without zeros ahead."""
    if word == "" or len(word) > 9 or word.strip("0123456789") != "":
        return False
    return word == "0" or not word.startswith("0")


def is_word_of_row(word):
    """Whether a word tells a row."""
    return word == "-" or (word != "" and word.strip(LETTERS) == "")


def word_of_row(row):
    """The word that tells a row."""
    return "-" if row == "" else row


def pairs_ahead(words):
    """The pairs of signs and weights at the end of a line, one at least."""
    pairs = [(words.a_sign(), words.a_number())]
    while not words.is_ended():
        pairs.append((words.a_sign(), words.a_number()))
    return pairs
