"""Signs with their weights, and the order of rows."""

from rowgames.errors import BadSigns
from rowgames.letters import check_row, is_from_to, is_letter, new_letters, weigh


class Weights:
    """One to four signs in order, each with a weight from 0 to 9."""

    def __init__(self, *pairs):
        if not is_from_to(len(pairs), 1, 4):
            raise BadSigns("many")
        signs = ""
        for at, pair in enumerate(pairs):
            if not is_pair(pair) or pair[0] in signs:
                raise BadSigns(at)
            signs = signs + pair[0]
        self._signs = signs
        self.pairs = pairs

    @classmethod
    def of(cls, pairs):
        """The weights of a list or tuple of pairs."""
        return cls(*pairs)

    @property
    def signs(self):
        """The signs in order, a string."""
        return self._signs

    def __len__(self):
        return len(self.pairs)

    def __contains__(self, x):
        return is_letter(x) and x in self.signs

    def __getitem__(self, at):
        if at not in self:
            raise BadSigns(at)
        return self.pairs[self.signs.index(at)][1]

    def __iter__(self):
        raise TypeError("weights are not iterated over")

    def __eq__(self, other):
        return isinstance(other, Weights) and self.pairs == other.pairs

    def __call__(self, row):
        """The weight of a row."""
        check_row(self.signs, row)
        return weigh(self.pairs, row)

    def place(self, row):
        """The tuple by which rows are ordered."""
        check_row(self.signs, row)
        return (weigh(self.pairs, row), len(row), tuple([self.signs.index(sign) for sign in row]))

    def rows(self, length):
        """All rows of a length, by the first sign in which they differ."""
        row = self.signs[0] * length
        while row is not None:
            yield row
            row = row_behind(self.signs, row)

    def renamed(self, names):
        """The same weights with the letters that a dict gives the signs."""
        letters = new_letters(self.signs, names)
        pairs = [(letters[at], pair[1]) for at, pair in enumerate(self.pairs)]
        return Weights(*pairs)


def is_pair(value):
    """Whether any value is a tuple of a letter and a weight."""
    return isinstance(value, tuple) and len(value) == 2 and is_letter(value[0]) and is_from_to(value[1], 0, 9)


def row_behind(signs, row):
    """The row of the same length that comes next, None behind the last one."""
    head = row.rstrip(signs[-1])
    if head == "":
        return None
    sign = signs[signs.index(head[-1]) + 1]
    return head[:-1] + sign + signs[0] * (len(row) - len(head))
