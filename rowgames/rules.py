"""Rules: a stretch of a row that is changed into another one."""

from rowgames.errors import BadMove, BadRule, BadText
from rowgames.letters import are_letters


class Rule:
    """An old stretch, a new one, and the ends of the row to which they are bound."""

    LONGEST = 4

    def __init__(self, old, new, *, left=False, right=False):
        if not are_letters(old, 1, Rule.LONGEST):
            raise BadRule("old")
        if not are_letters(new, 0, Rule.LONGEST):
            raise BadRule("new")
        if not isinstance(left, bool):
            raise BadRule("left")
        if not isinstance(right, bool):
            raise BadRule("right")
        self.old = old
        self.new = new
        self.left = left
        self.right = right

    @classmethod
    def read(cls, text):
        """The rule with this text, as str gives it."""
        if not is_text_of_rule(text):
            raise BadText(0, 0)
        old, _, new = parts_of_text(text)
        return cls(old, new, left=text.startswith("["), right=text.endswith("]"))

    def __str__(self):
        head = "[" if self.left else ""
        tail = "]" if self.right else ""
        return f"{head}{self.old}>{self.new}{tail}"

    def __eq__(self, other):
        if not isinstance(other, Rule):
            return False
        stretches = self.old == other.old and self.new == other.new
        return stretches and self.left == other.left and self.right == other.right

    def fits(self, row, place):
        """Whether the rule fits a row at a place."""
        end = place + len(self.old)
        if place < 0 or row[place:end] != self.old:
            return False
        return (not self.left or place == 0) and (not self.right or end == len(row))

    def places(self, row):
        """The places at which the rule fits a row, ascending."""
        for place in self.all_places(row):
            yield place

    def all_places(self, row):
        """The list of the places at which the rule fits a row, ascending."""
        if self.left or self.right:
            place = self.first_place(row)
            return [place] if place >= 0 else []
        found = []
        place = row.find(self.old)
        while place >= 0:
            found.append(place)
            place = row.find(self.old, place + 1)
        return found

    def first_place(self, row):
        """The first place at which the rule fits a row, below 0 if there is none."""
        if self.left:
            there = row == self.old if self.right else row.startswith(self.old)
            return 0 if there else -1
        if self.right:
            return len(row) - len(self.old) if row.endswith(self.old) else -1
        return row.find(self.old)

    def __call__(self, row, place):
        """The row that comes of the rule at a place."""
        if not self.fits(row, place):
            raise BadMove("place")
        return row[:place] + self.new + row[place + len(self.old):]

    def __neg__(self):
        return Rule(self.old[::-1], self.new[::-1], left=self.right, right=self.left)

    def __mul__(self, other):
        # A great number would make a stretch that no memory holds: so the length is asked first.
        if len(self.old) * other > Rule.LONGEST:
            raise BadRule("old")
        return Rule(self.old * other, self.new * other, left=self.left, right=self.right)

    def __rmul__(self, other):
        return self * other


def parts_of_text(text):
    """The old stretch, the arrow and the new stretch of a text, without the marks of the ends."""
    return text.removeprefix("[").removesuffix("]").partition(">")


def is_text_of_rule(value):
    """Whether any value is the text of a rule."""
    if not isinstance(value, str):
        return False
    old, arrow, new = parts_of_text(value)
    return arrow == ">" and are_letters(old, 1, Rule.LONGEST) and are_letters(new, 0, Rule.LONGEST)
