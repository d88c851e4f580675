"""Texts of books, machines, games and ledgers."""

from rowgames.games import Every, Shared, Some
from rowgames.orders import positions_in_order
from rowgames.words import word_of_row


def write_book(book):
    """The text of a book."""
    return "\n".join([line_of_weights(book.weights)] + lines_of_rules("rule", book))


def write_machine(machine):
    """The text of a machine."""
    states = [line_of_state(answer, onward) for answer, onward in zip(machine.told, machine.steps)]
    return "\n".join([f"machine {machine.signs}"] + states)


def write_game(game):
    """The text of a game."""
    lines = [first_line(game), line_of_weights(game.weights)]
    if game.seats == 2:
        lines = lines + lines_of_rules("left", game.books[0]) + lines_of_rules("right", game.books[1])
    else:
        lines = lines + lines_of_rules("rule", game.books[0])
    if game.goal is not None:
        lines.append(write_machine(game.goal))
    return "\n".join(lines)


def write_ledger(ledger, weights):
    """The text of a ledger, in the order of rows and then of seats."""
    if len(ledger) == 0:
        return "none"
    met = [{}, {}]
    levels = {}
    for row, seat in ledger:
        met[seat][row] = True
        levels.setdefault(weights(row), []).append([row])
    positions = positions_in_order(weights.signs, met, levels)
    return "\n".join([line_of_entry(position, ledger[position]) for position in positions])


def line_of_weights(weights):
    """The line of signs and weights."""
    return " ".join(["signs"] + [f"{sign} {weight}" for sign, weight in weights.pairs])


def lines_of_rules(word, book):
    """A line for each rule of a book, with this word ahead."""
    return [f"{word} {str(rule)}" for rule in book.rules]


def line_of_state(answer, onward):
    """The line of a state of a machine."""
    return " ".join(["told" if answer else "not"] + [str(state) for state in onward])


def first_line(game):
    """The line that tells the kind of a game."""
    if isinstance(game, Some):
        return "some"
    if isinstance(game, Every):
        return "every"
    kind = "shared" if isinstance(game, Shared) else "sides"
    ending = "wins" if game.last else "loses"
    return f"{kind} last {ending}"


def line_of_entry(position, entry):
    """The line of a position and its entry."""
    row, seat = position
    won, move = entry
    words = [word_of_row(row), str(seat), "won" if won else "lost"]
    if move is None:
        return " ".join(words + ["-"])
    place, index = move
    return " ".join(words + [str(place), str(index)])
