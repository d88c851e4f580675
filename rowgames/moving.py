"""Moves by a list of rules."""

from rowgames.errors import BadMove
from rowgames.letters import is_from_to, is_integer


def moves_from(rules, row):
    """The moves from a row, ascending."""
    many = len(rules)
    if many == 1:
        return [(place, 0) for place in rules[0].all_places(row)]
    # A move as one number: these are in order as the moves are.
    numbers = sorted([int(place * many + index) for index, rule in enumerate(rules) for place in rule.all_places(row)])
    return [(number // many, number % many) for number in numbers]


def has_move(rules, row):
    """Whether there is a move from a row."""
    for rule in rules:
        if rule.first_place(row) >= 0:
            return True
    return False


def first_move(rules, row):
    """The first move from a row, None if there is none."""
    first = None
    for index, rule in enumerate(rules):
        place = rule.first_place(row)
        if place >= 0 and (first is None or place < first[0]):
            first = (place, index)
    return first


def rows_behind(rules, row):
    """The rows to which the moves from a row lead, in the order of moves."""
    return [row_of_move(rules, row, move) for move in moves_from(rules, row)]


def row_of_move(rules, row, move):
    """The row to which a move leads, for what is a move."""
    place, index = move
    rule = rules[index]
    return row[:place] + rule.new + row[place + len(rule.old):]


def has_form_of_move(value):
    """Whether any value is a tuple of two integers."""
    return isinstance(value, tuple) and len(value) == 2 and is_integer(value[0]) and is_integer(value[1])


def is_move(rules, row, value):
    """Whether any value is a move from a row."""
    if not has_form_of_move(value) or not is_from_to(value[1], 0, len(rules) - 1):
        return False
    place, index = value
    return rules[index].fits(row, place)


def row_behind_move(rules, row, move):
    """The row to which a move, any value, leads; raises BadMove for what is no move."""
    if not has_form_of_move(move):
        raise BadMove("form")
    place, index = move
    if not is_from_to(index, 0, len(rules) - 1):
        raise BadMove("rule")
    rule = rules[index]
    return rule(row, place)


def row_ahead_of_move(rules, row, move):
    """The row from which a played move led to this row."""
    place, index = move
    rule = rules[index]
    return row[:place] + rule.old + row[place + len(rule.new):]
