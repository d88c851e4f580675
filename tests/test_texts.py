"""Texts: what the table of the document lists, word for word, and each read again as an equal thing."""

from rowgames.books import Book
from rowgames.games import Every, Shared, Sides, Some
from rowgames.ledgers import ledger_of
from rowgames.machines import Machine
from rowgames.reader import read, read_book, read_game, read_ledger, read_machine
from rowgames.rules import Rule
from rowgames.signs import Weights
from rowgames.texts import write_book, write_game, write_ledger, write_machine
from helpers import FLIP, ODD, SHARED, XO, Case
from oracle import ABC, GOAL, LEFT, NO_RULES, RIGHT, all_games, rows_up_to, small_games

EIGHT = Book(XO, *map(Rule.read, ("[x>o]", "[x>]", "x>o]", "x>]", "[x>o", "[x>", "x>o", "xoxx>oooo")))


def weights_line(weights):
    return "signs" + "".join(f" {sign} {weights[sign]}" for sign in weights.signs)


def rule_lines(word, book):
    return "".join(f"\n{word} {str(rule)}" for rule in book.rules)


def machine_text(machine):
    text = "machine " + machine.signs
    for state in range(len(machine)):
        text += "\ntold" if machine.told[state] else "\nnot"
        text += "".join(f" {led}" for led in machine.steps[state])
    return text


def game_text(game):
    """The text of a game by the table."""
    if isinstance(game, (Some, Every)):
        kind = "some" if isinstance(game, Some) else "every"
        return kind + "\n" + weights_line(game.weights) + rule_lines("rule", game.books[0]) + "\n" + machine_text(game.goal)
    ending = "wins" if game.last else "loses"
    if isinstance(game, Shared):
        return f"shared last {ending}\n" + weights_line(game.weights) + rule_lines("rule", game.books[0])
    return (f"sides last {ending}\n" + weights_line(game.weights) + rule_lines("left", game.books[0])
            + rule_lines("right", game.books[1]))


class TestTexts(Case):
    def test_books(self):
        self.same(write_book(NO_RULES), "signs x 1 o 0")
        self.same(write_book(Book(Weights(("q", 9)))), "signs q 9")
        self.same(write_book(Book(ABC, *LEFT)), "signs b 3 a 1 c 0\nrule b>aa\nrule [ab>cb\nrule aa>\nrule cab>b]")
        self.same(write_book(EIGHT), "signs x 1 o 0\nrule [x>o]\nrule [x>]\nrule x>o]\nrule x>]\nrule [x>o\nrule [x>\n"
                                     "rule x>o\nrule xoxx>oooo")
        for book in (NO_RULES, FLIP, EIGHT, Book(ABC, *LEFT), Book(ABC, *RIGHT)):
            self.same(write_book(book), weights_line(book.weights) + rule_lines("rule", book))
            for ask in (read_book, read):
                self.assertEqual(ask(write_book(book)), book)

    def test_machines(self):
        self.same(write_machine(Machine.none("q")), "machine q\nnot 0")
        self.same(write_machine(Machine.every("abcd")), "machine abcd\ntold 0 0 0 0")
        self.same(write_machine(Machine.modulo("xo", "x", 12)).split("\n")[11:], ["not 11 10", "not 0 11"])
        unused = Machine("xo", [[0, 0], (1, 2), [0, 1]], [True, False, True])
        self.same(write_machine(unused), "machine xo\ntold 0 0\nnot 1 2\ntold 0 1")
        for machine in (ODD, GOAL, unused, Machine.none("q"), Machine.modulo("xo", "x", 60)):
            self.same(write_machine(machine), machine_text(machine))
            for ask in (read_machine, read):
                found = ask(write_machine(machine))
                self.same([found.signs, found.steps, found.told], [machine.signs, machine.steps, machine.told])

    def test_games(self):
        self.same(write_game(SHARED), "shared last wins\nsigns x 1 o 0\nrule x>o")
        self.same(write_game(Shared(NO_RULES, last=False)), "shared last loses\nsigns x 1 o 0")
        self.same(write_game(Sides(FLIP, NO_RULES)), "sides last wins\nsigns x 1 o 0\nleft x>o")
        self.same(write_game(Sides(NO_RULES, FLIP, last=False)), "sides last loses\nsigns x 1 o 0\nright x>o")
        self.same(write_game(Every(FLIP, ODD)), "every\nsigns x 1 o 0\nrule x>o\nmachine xo\nnot 1 0\ntold 0 1")
        self.same(write_game(Some(NO_RULES, Machine.none("xo"))), "some\nsigns x 1 o 0\nmachine xo\nnot 0 0")
        for game in all_games() + small_games() + [Sides(EIGHT, EIGHT)]:
            self.same(write_game(game), game_text(game))
            for ask in (read_game, read):
                self.assertEqual(ask(write_game(game)), game)

    def test_ledgers(self):
        self.same(write_ledger({}, XO), "none")
        self.same(write_ledger(ledger_of(SHARED, ""), XO), "- 0 lost -")
        self.same(write_ledger(ledger_of(SHARED, "xo"), XO), "oo 0 lost -\nxo 0 won 0 0")
        for game in all_games():
            for row in rows_up_to(game.weights, 3)[::5]:
                for seat in range(game.seats):
                    ledger = ledger_of(game, row, seat)
                    order = sorted(ledger, key=lambda position: (game.weights.place(position[0]), position[1]))
                    lines = []
                    for position in order:
                        won, move = ledger[position]
                        line = [position[0] or "-", str(position[1]), "won" if won else "lost"]
                        lines.append(" ".join(line + (["-"] if move is None else [str(part) for part in move])))
                    self.same(write_ledger(ledger, game.weights), "\n".join(lines))
                    self.same(read_ledger(write_ledger(ledger, game.weights)), ledger)

    def test_rows_and_then_seats(self):
        ledger = {("x", 1): (True, (0, 0)), ("b", 0): (False, None), ("x", 0): (False, None), ("", 1): (True, None),
                  ("ob", 0): (True, (10, 7)), ("oo", 1): (False, None), ("bo", 1): (False, None)}
        weights = Weights(("x", 2), ("o", 0), ("b", 1))
        wanted = ["- 1 won -", "oo 1 lost -", "b 0 lost -", "ob 0 won 10 7", "bo 1 lost -", "x 0 lost -", "x 1 won 0 0"]
        self.same(write_ledger(ledger, weights).split("\n"), wanted)
        self.same(write_ledger(dict(reversed(ledger.items())), weights).split("\n"), wanted)
        self.same(len(ledger), 7)
        other = Weights(("b", 1), ("o", 0), ("x", 2))
        self.same(write_ledger(ledger, other).split("\n")[3:5], ["bo 1 lost -", "ob 0 won 10 7"])
