"""Books: the rules by which a player moves."""

from rowgames.errors import BadBook, Heavier, OtherSigns, Unlessened
from rowgames.letters import check_row, new_letters, respelled, weigh, wrong_at
from rowgames.moving import has_move, moves_from, row_behind_move, rows_behind
from rowgames.rules import Rule
from rowgames.signs import Weights


class Book:
    """Weights and up to eight different rules, each of which makes rows lighter."""

    MOST = 8

    def __init__(self, weights, *rules):
        if not isinstance(weights, Weights) or len(rules) > Book.MOST:
            raise BadBook(None)
        for at, rule in enumerate(rules):
            if not is_rule_of(weights, rule) or rule in rules[:at]:
                raise BadBook(at)
        for at, rule in enumerate(rules):
            old = weigh(weights.pairs, rule.old)
            new = weigh(weights.pairs, rule.new)
            if old <= new:
                raise Heavier(at) from Unlessened(old, new)
        self.weights = weights
        self.rules = rules

    @classmethod
    def of(cls, weights, rules):
        """The book of a list or tuple of rules."""
        return cls(weights, *rules)

    @property
    def longest(self):
        """The length of the longest old stretch, 0 without rules."""
        return max([len(rule.old) for rule in self.rules], default=0)

    def __len__(self):
        return len(self.rules)

    def __getitem__(self, at):
        return self.rules[at]

    def __iter__(self):
        raise TypeError("books are not iterated over")

    def __contains__(self, x):
        return x in self.rules

    def __eq__(self, other):
        return isinstance(other, Book) and self.weights == other.weights and self.rules == other.rules

    def __call__(self, row):
        """The list of the moves from a row, ascending."""
        check_row(self.weights.signs, row)
        return moves_from(self.rules, row)

    def finished(self, row):
        """Whether there is no move from a row."""
        check_row(self.weights.signs, row)
        return not has_move(self.rules, row)

    def led_to(self, row):
        """The rows to which the moves from a row lead, in the order of moves."""
        check_row(self.weights.signs, row)
        return rows_behind(self.rules, row)

    def led(self, row, move):
        """The row to which a move leads."""
        check_row(self.weights.signs, row)
        return row_behind_move(self.rules, row, move)

    def __add__(self, other):
        return Book(self.weights, *self.rules, other)

    def __sub__(self, other):
        if other not in self:
            raise BadBook(None)
        rules = [rule for rule in self.rules if rule != other]
        return Book(self.weights, *rules)

    def __or__(self, other):
        if self.weights != other.weights:
            raise OtherSigns("weights")
        further = [rule for rule in other.rules if rule not in self.rules]
        return Book(self.weights, *self.rules, *further)

    def __neg__(self):
        rules = [-rule for rule in self.rules]
        return Book(self.weights, *rules)

    def renamed(self, names):
        """The book with the letters that a dict gives the signs."""
        signs = self.weights.signs
        letters = new_letters(signs, names)
        rules = [respelled_rule(rule, signs, letters) for rule in self.rules]
        return Book(self.weights.renamed(names), *rules)


def is_rule_of(weights, value):
    """Whether any value is a rule with no other letters than the signs."""
    return isinstance(value, Rule) and wrong_at(weights.signs, value.old + value.new) is None


def respelled_rule(rule, signs, letters):
    """A rule in the letters that stand in the places of the signs."""
    old = respelled(rule.old, signs, letters)
    new = respelled(rule.new, signs, letters)
    return Rule(old, new, left=rule.left, right=rule.right)
