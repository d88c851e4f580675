"""Moves by a list of rules."""

from rowgames.errors import BadMove
from rowgames.letters import is_from_to, is_integer


def moves_from(rules, row):
    """The moves from a row, ascending."""
    fitting = {}
    for index, rule in enumerate(rules):
        for place in rule.places(row):
            fitting.setdefault(place, []).append(index)
    places = sorted([int(place) for place in fitting])
    return [(place, index) for place in places for index in fitting[place]]


def rows_behind(rules, row):
    """The rows to which the moves from a row lead, in the order of moves."""
    return [row_of_move(rules, row, move) for move in moves_from(rules, row)]


def row_of_move(rules, row, move):
    """The row to which a move leads, for what is a move."""
    place, index = move
    rule = rules[index]
    return row[:place] + rule.new + row[place + len(rule.old):]


def has_form_of_move(value):
    """Whether any value is a tuple of two integers."""
    return isinstance(value, tuple) and len(value) == 2 and all([is_integer(part) for part in value])


def is_move(rules, row, value):
    """Whether any value is a move from a row."""
    if not has_form_of_move(value) or not is_from_to(value[1], 0, len(rules) - 1):
        return False
    place, index = value
    return rules[index].fits(row, place)


def row_behind_move(rules, row, move):
    """The row to which a move, any value, leads; raises BadMove for what is no move."""
    if not has_form_of_move(move):
        raise BadMove("form")
    place, index = move
    if not is_from_to(index, 0, len(rules) - 1):
        raise BadMove("rule")
    rule = rules[index]
    return rule(row, place)


def row_ahead_of_move(rules, row, move):
    """The row from which a played move led to this row."""
    place, index = move
    rule = rules[index]
    return row[:place] + rule.old + row[place + len(rule.new):]
