"""Doing: what the commands of a desk answer, and what they make of what is on it."""

from rowgames.books import Book
from rowgames.compare import needless
from rowgames.counts import count
from rowgames.errors import BadBook, NotThere
from rowgames.games import Every, Shared, Sides, Some
from rowgames.kept import kept
from rowgames.least import least
from rowgames.machines import Machine
from rowgames.moving import moves_from
from rowgames.plain import check_position, is_won
from rowgames.rules import Rule
from rowgames.signs import Weights
from rowgames.tables import look
from rowgames.texts import write_game, write_machine
from rowgames.ways import way
from rowgames.words import word_of_row


class State:
    """What is on a desk. It never changes: a change makes another one."""

    def __init__(self, weights, rules, machines, game):
        self.weights = weights
        # A list of rules for each seat; the machines by their names.
        self.rules = rules
        self.machines = machines
        self.game = game

    def book_of(self, seat):
        """The book of the rules of a seat."""
        return Book.of(self.weights, self.rules[seat])

    def with_rules(self, seat, rules):
        """The state with other rules of a seat, and without a game."""
        both = list(self.rules)
        both[seat] = rules
        further = State(self.weights, both, self.machines, None)
        # What cannot be in a book is refused at once.
        further.book_of(seat)
        return further

    def with_machines(self, named):
        """The state with further machines."""
        machines = dict(self.machines)
        for name, machine in named.items():
            machines[name] = machine
        return State(self.weights, self.rules, machines, self.game)


def do(state, command):
    """The answer to a command, and the state behind it, None if that is the same."""
    kind, names, told = command
    check_there(state, kind, names)
    if kind in CHANGES:
        change = CHANGES[kind]
        return "ok", change(state, names, told)
    if kind == "least":
        return do_least(state, told)
    ask = ANSWERS[kind]
    return ask(state, [state.machines[name] for name in names], told), None


def check_there(state, kind, names):
    """Raise NotThere for the first thing that a command needs and that is not there."""
    if state.weights is None and kind != "signs":
        raise NotThere("signs")
    if state.game is None and kind in NEEDING_GAME:
        raise NotThere("game")
    for name in names:
        if name not in state.machines:
            raise NotThere(name)


def change_signs(state, names, told):
    """These weights and nothing else."""
    return State(Weights.of(told), [[], []], {}, None)


def change_rule(state, names, told):
    """A further rule of a seat."""
    seat, text = told
    return state.with_rules(seat, state.rules[seat] + [Rule.read(text)])


def change_drop(state, names, told):
    """A rule of a seat less."""
    seat, index = told
    rules = state.rules[seat]
    if index >= len(rules):
        raise BadBook(index)
    return state.with_rules(seat, rules[:index] + rules[index + 1:])


def change_machine(state, names, told):
    """A machine with a name."""
    name, steps, answers = told
    return state.with_machines({name: Machine(state.weights.signs, steps, answers)})


def change_game(state, names, told):
    """A game by the rules as they are."""
    return State(state.weights, state.rules, state.machines, new_game(state, names, told))


def new_game(state, names, told):
    """The game of a kind, with the goal of a name or with an ending."""
    kind, last = told
    book = state.book_of(0)
    if kind == "some":
        return Some(book, state.machines[names[0]])
    if kind == "every":
        return Every(book, state.machines[names[0]])
    if kind == "shared":
        return Shared(book, last=last)
    return Sides(book, state.book_of(1), last=last)


def do_least(state, most):
    """The sizes of the least machines, which are kept, or the beginnings that bar them."""
    found = least(state.game, most)
    if found:
        named = {name: machine for name, machine in zip("ab", found.machines)}
        return listed(["least"] + [str(len(machine)) for machine in found.machines]), state.with_machines(named)
    return listed(["parted", str(found.seat)] + [word_of_row(row) for row in found.beginnings]), None


def answer_moves(state, machines, told):
    """The moves from a position."""
    row, seat = told
    check_position(state.game, row, seat)
    return words_of_pairs(moves_from(state.game.books[seat].rules, row))


def answer_won(state, machines, told):
    """Whether a row is won for a seat."""
    row, seat = told
    return "yes" if is_won(state.game, row, seat) else "no"


def answer_look(state, machines, told):
    """Whether machines are right, or where they are not."""
    found = look(state.game, *machines)
    if found:
        return f"right {len(found.table)}"
    return f"wrong {word_of_row(found.row)} {found.seat}"


def answer_keeps(state, machines, seat):
    """Whether the book of a seat keeps the rows of a machine, or which move leads out."""
    found = kept(state.book_of(seat), machines[0])
    if found:
        return "yes"
    return f"{word_of_row(found.row)} {words_of_pairs([found.move])}"


def answer_needless(state, machines, told):
    """The rules that never matter."""
    return words_of_pairs(list(needless(state.game, machines)))


def answer_way(state, machines, row):
    """The moves to a goal row."""
    return words_of_pairs(way(state.game, machines[0], row))


def answer_count(state, machines, n):
    """How many rows of n signs a machine tells."""
    return str(count(machines[0], n))


def show_the_game(state, machines, told):
    """The text of the game in one line."""
    return in_one_line(write_game(state.game))


def show_a_machine(state, machines, told):
    """The text of a machine in one line."""
    return in_one_line(write_machine(machines[0]))


def listed(words):
    """Words with spaces between them."""
    return " ".join(words)


def words_of_pairs(pairs):
    """Moves, or rules of seats, as words; none if there is none."""
    if pairs == []:
        return "none"
    return listed([f"{one}.{index}" for one, index in pairs])


def in_one_line(text):
    """A text with slashes in the place of newlines."""
    return text.replace("\n", " / ")


NEEDING_GAME = ("moves", "won", "look", "least", "needless", "way", "show game")
CHANGES = {"signs": change_signs, "rule": change_rule, "drop": change_drop, "machine": change_machine,
           "game": change_game}
ANSWERS = {"moves": answer_moves, "won": answer_won, "look": answer_look, "keeps": answer_keeps,
           "needless": answer_needless, "way": answer_way, "count": answer_count, "show game": show_the_game,
           "show machine": show_a_machine}
