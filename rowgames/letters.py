"""What letters, numbers and rows are: the checks that the other files share."""

from rowgames.errors import BadRow, BadSigns

LETTERS = "abcdefghijklmnopqrstuvwxyz"


def is_integer(value):
    """Whether any value is an integer, which a bool is not."""
    return isinstance(value, int) and not isinstance(value, bool)


def is_natural(value):
    """Whether any value is an integer from 0."""
    return is_integer(value) and value >= 0


def is_from_to(value, low, high):
    """Whether any value is an integer from low to high."""
    # Written out, as it is asked for several times at each move of a contest.
    return isinstance(value, int) and not isinstance(value, bool) and low <= value <= high


def is_letter(value):
    """Whether any value is a letter a to z."""
    return isinstance(value, str) and len(value) == 1 and value in LETTERS


def are_letters(value, least, most):
    """Whether any value is a string of letters, of so many at least and at most."""
    return isinstance(value, str) and least <= len(value) <= most and value.strip(LETTERS) == ""


def are_signs(value):
    """Whether any value is a string of one to four different letters."""
    return are_letters(value, 1, 4) and len(set(value)) == len(value)


def wrong_at(signs, value):
    """The index at which any value is no row of these signs, None if it is one."""
    if not isinstance(value, str):
        return 0
    rest = value.lstrip(signs)
    if rest == "":
        return None
    return len(value) - len(rest)


def check_row(signs, value):
    """Raise BadRow for any value that is no row of these signs."""
    at = wrong_at(signs, value)
    if at is not None:
        raise BadRow(at)


def weigh(pairs, row):
    """The weight of a row. (Operators and properties may not call Weights itself.)"""
    return sum([weight * row.count(sign) for sign, weight in pairs])


def new_letters(signs, names):
    """The letters that a dict of any kind gives the signs, in their order."""
    if not isinstance(names, dict) or len(names) != len(signs):
        raise BadSigns("names")
    letters = [names.get(sign) for sign in signs]
    if not all([is_letter(letter) for letter in letters]) or len(set(letters)) < len(letters):
        raise BadSigns("names")
    return "".join(letters)


def respelled(text, signs, letters):
    """A text of signs in the letters that stand in their places."""
    return "".join([letters[signs.index(sign)] for sign in text])
