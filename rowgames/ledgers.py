"""Ledgers: who wins at positions, with entries that are each looked through by one step.

A single move can tell who wins ahead of it: in Some a move to a won row, in Every one to a row
that is not won, in a duel one to a row that is not won for the judging seat. If no move does,
all moves have the other answer, and the equation tells who wins.
"""

from rowgames.games import Every, Some
from rowgames.letters import is_from_to, wrong_at
from rowgames.moving import has_form_of_move, is_move, moves_from, row_of_move
from rowgames.orders import positions_in_order
from rowgames.plain import check_position
from rowgames.playing import Plays, is_goal


def ledger_of(game, row, seat=0, *, most=2000):
    """The entries of all positions to which plays lead from a position."""
    check_position(game, row, seat)
    plays = Plays(game, most)
    levels = plays.judge_from(row, seat)
    ledger = entries_from(plays, [row], seat)
    positions = positions_in_order(game.weights.signs, plays.rows_led, levels)
    return {position: ledger[position] for position in positions}


def entries_from(plays, rows, seat):
    """The entries of all positions to which plays lead from judged rows of a seat."""
    ledger = {}
    for at, reached in enumerate(plays.reached_from(rows, seat)):
        put_entries(ledger, plays, reached, at)
    return ledger


def put_entries(ledger, plays, rows, seat):
    """Puts the entries of judged rows of a seat into a ledger: with None or the first move that fits."""
    game = plays.game
    by_move = won_by_move(game)
    at_once = isinstance(game, Some)
    answer = answer_of_move(game)
    won = plays.won[seat]
    judged = plays.won[game.judges[seat]]
    rules = game.books[seat].rules
    for row in rows:
        move = None
        if won[row] == by_move and not (at_once and plays.is_goal(row)):
            move = first_move(rules, row, judged, answer)
        ledger[(row, seat)] = (won[row], move)


def first_move(rules, row, judged, answer):
    """The first move to a row that is judged so, None if there is none."""
    found = None
    # Only lower places than that of the found move are of interest.
    end = len(row)
    for index, rule in enumerate(rules):
        old = rule.old
        place = row.find(old)
        while 0 <= place < end:
            head = row[:place]
            tail = row[place + len(old):]
            if (head and rule.left) or (tail and rule.right) or judged[head + rule.new + tail] != answer:
                place = row.find(old, place + 1)
            else:
                found = (place, index)
                end = place
    return found


def is_won_at_once(game, row):
    """Whether a row is won whatever its moves are."""
    return isinstance(game, Some) and is_goal(game, row)


def answer_of_move(game):
    """The answer behind a single move that tells who wins ahead of it."""
    return isinstance(game, Some)


def won_by_move(game):
    """Whether the row ahead of such a move is won."""
    return not isinstance(game, Every)


def shows_won(game, row, seat, won, ledger):
    """Whether any value is a ledger, right at each step, that has a position with this winner."""
    check_position(game, row, seat)
    if not isinstance(won, bool) or not is_right_ledger(game, ledger):
        return False
    return (row, seat) in ledger and ledger[(row, seat)][0] == won


def is_right_ledger(game, value):
    """Whether any value is a ledger of a game whose entries are right by one step."""
    if not isinstance(value, dict):
        return False
    if not all([is_position(game, key) and is_entry(entry) for key, entry in value.items()]):
        return False
    return all([is_right_entry(game, value, key) for key in value])


def is_position(game, value):
    """Whether any value is a position of a game."""
    if not isinstance(value, tuple) or len(value) != 2:
        return False
    return wrong_at(game.weights.signs, value[0]) is None and is_from_to(value[1], 0, game.seats - 1)


def is_entry(value):
    """Whether any value has the form of an entry."""
    if not isinstance(value, tuple) or len(value) != 2 or not isinstance(value[0], bool):
        return False
    return value[1] is None or has_form_of_move(value[1])


def is_right_entry(game, ledger, position):
    """Whether the entry of a position is right by one step."""
    row, seat = position
    won, move = ledger[position]
    rules = game.books[seat].rules
    if move is None and is_won_at_once(game, row):
        return won
    answer = answer_of_move(game)
    if move is not None:
        fits = won == won_by_move(game) and is_move(rules, row, move)
        return fits and is_listed(game, ledger, position, move, answer)
    moves = moves_from(rules, row)
    for other in moves:
        if not is_listed(game, ledger, position, other, not answer):
            return False
    return won == game.reads(is_goal(game, row), [not answer for _ in moves])


def is_listed(game, ledger, position, move, answer):
    """Whether a move from a position leads to a listed one with this answer."""
    row, seat = position
    behind = (row_of_move(game.books[seat].rules, row, move), game.judge(seat))
    return behind in ledger and ledger[behind][0] == answer
