"""Commands: what the lines of a desk ask for.

A command is a tuple: its kind, the names of the machines that it needs, and the rest of what its
words tell.
"""

from rowgames.errors import BadLine
from rowgames.words import Words, pairs_ahead


def read_command(line):
    """The command of a line, any value; raises BadLine."""
    if not isinstance(line, str):
        raise BadLine(0)
    words = Words(line, None)
    if words.ahead() not in FORMS:
        words.refuse()
    kind = words.taken(True)
    form = FORMS[kind]
    command = form(kind, words)
    words.end()
    return command


def signs_form(kind, words):
    """Signs with their weights."""
    return (kind, [], pairs_ahead(words))


def rule_form(kind, words):
    """A seat and the text of a rule."""
    seat = words.a_seat()
    return (kind, [], (seat, words.a_rule()))


def drop_form(kind, words):
    """A seat and the index of a rule."""
    seat = words.a_seat()
    return (kind, [], (seat, words.a_number()))


def machine_form(kind, words):
    """A name, which need not be there, with steps and told."""
    name = words.a_name()
    steps = []
    told = []
    while told == [] or not words.is_ended():
        if told != []:
            words.one_of(";")
        told.append(words.one_of("told", "not") == "told")
        onward = [words.a_number()]
        while not words.is_ended() and words.ahead() != ";":
            onward.append(words.a_number())
        steps.append(onward)
    return (kind, [], (name, steps, told))


def game_form(kind, words):
    """The kind of a game, with the name of its goal or with its ending."""
    word = words.one_of("some", "every", "shared", "sides")
    if word in ("some", "every"):
        return (kind, [words.a_name()], (word, None))
    words.one_of("last")
    return (kind, [], (word, words.one_of("wins", "loses") == "wins"))


def position_form(kind, words):
    """A row and a seat."""
    row = words.a_row()
    return (kind, [], (row, words.a_seat()))


def names_form(kind, words):
    """One name or more."""
    names = [words.a_name()]
    while not words.is_ended():
        names.append(words.a_name())
    return (kind, names, None)


def number_form(kind, words):
    """A number."""
    return (kind, [], words.a_number())


def name_seat_form(kind, words):
    """A name and a seat."""
    name = words.a_name()
    return (kind, [name], words.a_seat())


def name_row_form(kind, words):
    """A name and a row."""
    name = words.a_name()
    return (kind, [name], words.a_row())


def name_number_form(kind, words):
    """A name and a number."""
    name = words.a_name()
    return (kind, [name], words.a_number())


def show_form(kind, words):
    """The game, or a machine with its name; it is told by the kind."""
    word = words.one_of("game", "machine")
    names = [words.a_name()] if word == "machine" else []
    return (f"{kind} {word}", names, None)


def bare_form(kind, words):
    """Nothing further."""
    return (kind, [], None)


FORMS = {"signs": signs_form, "rule": rule_form, "drop": drop_form, "machine": machine_form, "game": game_form,
         "moves": position_form, "won": position_form, "look": names_form, "least": number_form,
         "keeps": name_seat_form, "needless": names_form, "way": name_row_form, "count": name_number_form,
         "show": show_form, "undo": bare_form}
