"""Reading, held against a reader that goes through the table of the document word by word."""

import re

from rowgames.books import Book
from rowgames.errors import (BadBook, BadMachine, BadSigns, BadText, GameError, Heavier, OtherSigns)
from rowgames.games import Every, Shared, Sides, Some
from rowgames.ledgers import ledger_of
from rowgames.machines import Machine
from rowgames.reader import read, read_book, read_game, read_ledger, read_machine
from rowgames.rules import Rule
from rowgames.signs import Weights
from rowgames.texts import write_book, write_game, write_ledger, write_machine
from helpers import FLIP, ODD, SHARED, Case, values_but
from oracle import ABC, GOAL, LEFT, NO_RULES, RIGHT

NUMBER = "0|[1-9][0-9]{0,8}"
SIGN = "[a-z]"
RULE = r"\[?[a-z]{1,4}>[a-z]{0,4}\]?"
ROW = "-|[a-z]+"
LEDGER_LINE = [ROW, NUMBER, "won|lost"]


def fixed(*forms):
    """The form of a line with just these words: what may come behind some words, and whether they may be all."""
    return lambda words: (forms[len(words)] if len(words) < len(forms) else None, len(words) == len(forms))


def signs_form(words):
    if not words:
        return "signs", False
    return (SIGN, len(words) > 1) if len(words) % 2 else (NUMBER, False)


def entry_form(words):
    if len(words) < 3:
        return LEDGER_LINE[len(words)], False
    if len(words) == 3:
        return f"-|{NUMBER}", False
    if words[3] == "-":
        return None, True
    return (NUMBER, False) if len(words) == 4 else (None, True)


def game_form(words):
    if not words:
        return "some|every|shared|sides", False
    if words[0] in ("some", "every"):
        return None, True
    return [("last", False), ("wins|loses", False), (None, True)][len(words) - 1]


def state_form(many):
    return fixed("told|not", *[NUMBER] * many)


def next_lines(kind, lines):
    """The forms that the next line may have behind the ones that were read, and whether these may be all.

    In the order of the table a line is told by its first word alone.
    """
    if kind == "book":
        return ([signs_form], False) if not lines else ([fixed("rule", RULE)], True)
    if kind == "machine":
        if not lines:
            return [fixed("machine", "[a-z]{1,4}")], False
        return [state_form(len(lines[0][1]))], len(lines) > 1
    if kind == "ledger":
        return [entry_form], bool(lines)
    if not lines:
        return [game_form], False
    if len(lines) == 1:
        return [signs_form], False
    if lines[0][0] == "shared":
        return [fixed("rule", RULE)], True
    if lines[0][0] == "sides":
        rights = [fixed("right", RULE)]
        return (rights if lines[-1][0] == "right" else [fixed("left", RULE)] + rights), True
    machines = [at for at, words in enumerate(lines) if words[0] == "machine"]
    if machines:
        return next_lines("machine", lines[machines[0]:])
    return [fixed("rule", RULE), fixed("machine", "[a-z]{1,4}")], False


def wrong_place(kind, text):
    """The line and the word of the first word that cannot stand there, None if there is none."""
    if not isinstance(text, str):
        return 0, 0
    if kind == "ledger" and text == "none":
        return None
    lines = []
    positions = set()
    for number, line in enumerate(text.split("\n")):
        forms, _ = next_lines(kind, lines)
        words = []
        for at, word in enumerate(line.split(" ")):
            forms = [form for form in forms if form(words)[0] and re.fullmatch(form(words)[0], word)]
            if not forms or (kind == "ledger" and at == 1 and (words[0], word) in positions):
                return number, at
            words.append(word)
        if not any(form(words)[1] for form in forms):
            return number, len(words)
        lines.append(words)
        positions.add(tuple(words[:2]))
    return None if next_lines(kind, lines)[1] else (len(lines), 0)


def rules_behind(lines, word):
    return [Rule.read(words[1]) for words in lines if words[0] == word]


def machine_behind(lines):
    told = [words[0] == "told" for words in lines[1:]]
    return Machine(lines[0][1], [[int(word) for word in words[1:]] for words in lines[1:]], told)


def thing_of(kind, text):
    """What a text without a wrong word tells, or the error that making it raises."""
    lines = [line.split(" ") for line in text.split("\n")]
    if kind == "machine":
        return machine_behind(lines)
    if kind == "ledger":
        moves = {tuple(words): None if words[3] == "-" else (int(words[3]), int(words[4])) for words in lines if words[1:]}
        return {("" if words[0] == "-" else words[0], int(words[1])): (words[2] == "won", move) for words, move in moves.items()}
    at = [number for number, words in enumerate(lines) if words[0] == "signs"][0]
    weights = Weights.of([(lines[at][k], int(lines[at][k + 1])) for k in range(1, len(lines[at]), 2)])
    if kind == "book":
        return Book(weights, *rules_behind(lines, "rule"))
    if lines[0][0] == "sides":
        left = Book(weights, *rules_behind(lines, "left"))
        return Sides(left, Book(weights, *rules_behind(lines, "right")), last=lines[0][2] == "wins")
    book = Book(weights, *rules_behind(lines, "rule"))
    if lines[0][0] == "shared":
        return Shared(book, last=lines[0][2] == "wins")
    goal = machine_behind(lines[[words[0] for words in lines].index("machine"):])
    return Some(book, goal) if lines[0][0] == "some" else Every(book, goal)


READERS = {"book": read_book, "machine": read_machine, "game": read_game, "ledger": read_ledger}
TEXTS = {"book": [write_book(FLIP), write_book(Book(ABC, *LEFT)), "signs q 0", "signs a 1 b 2 c 3 d 9\nrule [dcba>dab"],
         "machine": [write_machine(ODD), write_machine(GOAL), "machine q\ntold 0", "machine abcd\nnot 1 0 1 0\nnot 0 0 0 1"],
         "game": [write_game(game) for game in (Some(FLIP, ODD), Every(Book(ABC, *LEFT), GOAL), SHARED, Sides(
             Book(ABC, *LEFT[:2]), Book(ABC, *RIGHT[:3]), last=False), Sides(NO_RULES, FLIP), Some(NO_RULES, ODD))],
         "ledger": [write_ledger(ledger_of(SHARED, "xox"), SHARED.weights), "none", "- 0 lost -\nx 12 won 10 7\nx 1 lost -"]}
WORDS = ["", "x", "o", "xo", "xyzab", "0", "1", "10", "01", "-0", "+1", "-1", "999999999", "1000000000", "-", "--", "x>o",
         "[xo>x]", ">", "x>", "x>>o", "[[x>o", "x>o]]", "X>o", "abcde>", "ab>abcde", "told", "not", "rule", "left", "right",
         "signs", "machine", "some", "every", "shared", "sides", "last", "wins", "loses", "won", "lost", "none", "A", "1x", "q"]
LINES = ["", " ", "signs x 1 o 0", "rule x>o", "left x>o", "right x>", "machine xo", "told 0 0", "not 1 0", "some", "every",
         "shared last wins", "sides last loses", "x 0 won -", "- 0 lost -", "none"]


def changed_words(words):
    """Lines with a word left out, put in, told twice, exchanged, or with a sign more or less."""
    for at in range(len(words)):
        yield words[:at] + words[at + 1:]
        yield words[:at] + words[at:at + 2][::-1] + words[at + 2:]
        yield words[:at] + [words[at][1:]] + words[at + 1:]
        yield words[:at] + [words[at] + " "] + words[at + 1:]
        yield words[:at] + [words[at] * 2] + words[at + 1:]
        for word in WORDS:
            yield words[:at] + [word] + words[at + 1:]
            yield words[:at] + [word] + words[at:]
    for word in WORDS:
        yield words + [word]


def changed_texts(text):
    """Texts that differ from one in one line or in the order of its lines."""
    lines = text.split("\n")
    yield text
    for at, line in enumerate(lines):
        for words in changed_words(line.split(" ")):
            yield "\n".join(lines[:at] + [" ".join(words)] + lines[at + 1:])
        yield "\n".join(lines[:at] + lines[at + 1:])
        yield "\n".join(lines[:at] + [line] + lines[at:])
        yield "\n".join(lines[:at] + lines[at:at + 2][::-1] + lines[at + 2:])
        for other in LINES:
            yield "\n".join(lines[:at] + [other] + lines[at:])
            yield "\n".join(lines[:at] + [other] + lines[at + 1:])
        yield "\n".join(lines[:at])
    for other in LINES:
        yield text + "\n" + other


class TestReading(Case):
    def held(self, kind, text, ask):
        """What a reader returns or raises, held against the table."""
        place = wrong_place(kind, text)
        if place is not None:
            self.raises(BadText(*place), ask, text)
            return "place"
        if kind == "ledger" and text == "none":
            self.same(ask(text), {})
            return "thing"
        try:
            wanted = thing_of(kind, text)
        except GameError as error:
            found = self.raises(error, ask, text)
            self.same(type(found.__cause__), type(error.__cause__))
            return type(error).__name__
        found = ask(text)
        if kind == "machine":
            self.same([found.signs, found.steps, found.told], [wanted.signs, wanted.steps, wanted.told])
        elif kind == "ledger":
            self.same(found, wanted)
        else:
            self.assertEqual(found, wanted)
        return "thing"

    def test_changed_texts(self):
        seen = {}
        for kind, texts in TEXTS.items():
            for text in texts:
                for changed in changed_texts(text):
                    name = self.held(kind, changed, READERS[kind])
                    seen[kind, name] = seen.get((kind, name), 0) + 1
        for kind in TEXTS:
            self.assertGreater(seen[kind, "place"], 300)
            self.assertGreater(seen[kind, "thing"], 30)
        for name in ("BadSigns", "BadBook", "Heavier"):
            self.assertGreater(seen["book", name], 3)
        self.assertGreater(seen["machine", "BadMachine"], 10)
        for name in ("BadSigns", "BadBook", "Heavier", "BadMachine", "OtherSigns"):
            self.assertGreater(seen["game", name], 3)

    def test_each_reader_with_texts_of_the_others(self):
        for kind, ask in READERS.items():
            for texts in TEXTS.values():
                for text in texts:
                    self.held(kind, text, ask)

    def test_what_is_no_text(self):
        for ask in (*READERS.values(), read):
            for value in values_but():
                if not isinstance(value, str):
                    self.raises(BadText(0, 0), ask, value)
            for text in ("", " ", "\n", "\nsigns x 1", " signs x 1", "x\n", "~" * 12000, "q", "1"):
                if not (ask is read_ledger and text in ("x\n", "q")):
                    self.raises(BadText(0, 0), ask, text)
        self.raises(BadText(0, 1), read_ledger, "x\n")

    def test_read_by_the_first_word(self):
        for kind in ("book", "machine", "game"):
            for text in TEXTS[kind]:
                for changed in list(changed_texts(text))[::3]:
                    word = re.split("[ \n]", changed)[0]
                    told = {"signs": "book", "machine": "machine"}.get(word, "game")
                    self.held(told, changed, read)
        for text in TEXTS["ledger"]:
            self.raises(BadText(0, 0), read, text)


class TestPlaces(Case):
    def test_a_line_that_ends_too_early_or_goes_on(self):
        for text, line, word in (("signs", 0, 1), ("signs x", 0, 2), ("signs x 1 o", 0, 4), ("signs x 1 ", 0, 3),
                                 ("signs x 1\nrule", 1, 1), ("signs x 1\nrule x> x", 1, 2), ("signs x 1\n", 1, 0),
                                 ("signs x 1\n\nrule x>", 1, 0), ("signs  x 1", 0, 1), ("signs xo 1", 0, 1),
                                 ("signs x 01", 0, 2), ("signs x 1234567890", 0, 2), ("signs x 1\nsigns x 1", 1, 0)):
            self.raises(BadText(line, word), read_book, text)
        for text, line, word in (("machine", 0, 1), ("machine xo", 1, 0), ("machine abcde\ntold", 0, 1), ("machine xo xo", 0, 2),
                                 ("machine xo\ntold 0", 1, 2), ("machine xo\ntold 0 0 0", 1, 3), ("machine xo\n", 1, 0),
                                 ("machine xx\ntold 0 0\nrule", 2, 0), ("machine xo\nTold 0 0", 1, 0)):
            self.raises(BadText(line, word), read_machine, text)
        for text, line, word in (("some", 1, 0), ("some x", 0, 1), ("shared", 0, 1), ("shared last", 0, 2), ("shared wins", 0, 1),
                                 ("shared last wins wins", 0, 3), ("some\nsigns x 1", 2, 0), ("some\nsigns x 1\nrule x>", 3, 0),
                                 ("sides last wins\nsigns x 1\nrule x>", 2, 0), ("shared last wins\nsigns x 1\nleft x>", 2, 0),
                                 ("sides last wins\nsigns x 1\nright x>\nleft x>", 3, 0), ("signs x 1", 0, 0),
                                 ("some\nsigns x 1\nmachine x\ntold 0\nrule x>", 4, 0), ("every\nrule x>", 1, 0),
                                 ("shared last wins\nsigns x 1\nmachine x\ntold 0", 2, 0), ("rows", 0, 0)):
            self.raises(BadText(line, word), read_game, text)

    def test_numbers(self):
        for word in ("0", "9", "10", "999999999"):
            if word != "0":
                self.raises(BadMachine("steps"), read_machine, f"machine x\ntold {word}")
            self.same(read_ledger(f"x {word} won {word} {word}"), {("x", int(word)): (True, (int(word), int(word)))})
        for word in ("00", "01", "+1", "-1", "1000000000", "1.0", "1e1", "", "x", "0x1", "1_0"):
            self.raises(BadText(1, 1), read_machine, f"machine x\ntold {word}")
            for at, text in ((1, "x {} won -"), (3, "x 0 won {} 0"), (4, "x 0 won 0 {}")):
                self.raises(BadText(0, at), read_ledger, text.format(word))

    def test_errors_in_the_order_of_the_text(self):
        self.raises(BadText(1, 0), read_book, "signs x 1 x 2\nq")
        self.raises(BadSigns(1), read_book, "signs x 1 x 10\nrule q>")
        self.raises(BadSigns("many"), read_book, "signs a 1 b 1 c 1 d 1 e 1")
        self.raises(BadSigns(0), read_book, "signs x 10")
        self.raises(BadBook(1), read_book, "signs x 1\nrule x>\nrule q>")
        self.raises(BadBook(None), read_book, "signs x 1" + "\nrule x>" * 9)
        self.raises(Heavier(1), read_book, "signs x 1\nrule x>\nrule x>x")
        self.raises(BadMachine("signs"), read_machine, "machine xx\ntold 7 7")
        self.raises(BadMachine("steps"), read_machine, "machine xo\ntold 0 1")
        game = "some\nsigns x {}\nrule {}\nmachine {}\ntold {}"
        self.raises(BadSigns(0), read_game, game.format("10", "q>", "yy", "7 7"))
        self.raises(BadBook(0), read_game, game.format("1", "q>", "yy", "7 7"))
        self.raises(Heavier(0), read_game, game.format("1", "x>x", "yy", "7 7"))
        self.raises(BadMachine("signs"), read_game, game.format("1", "x>", "yy", "7 7"))
        self.raises(BadMachine("steps"), read_game, game.format("1", "x>", "y", "7"))
        self.raises(OtherSigns("goal"), read_game, game.format("1", "x>", "y", "0"))
        sides = "sides last wins\nsigns x {}\nleft {}\nright {}"
        self.raises(BadSigns(0), read_game, sides.format("10", "q>", "q>"))
        self.raises(Heavier(0), read_game, sides.format("1", "x>x", "q>"))
        self.raises(BadBook(0), read_game, sides.format("1", "x>", "q>"))
        self.raises(BadText(4, 0), read_game, sides.format("10", "q>", "q>") + "\nleft x>")

    def test_ledgers(self):
        self.same(read_ledger("none"), {})
        self.raises(BadText(0, 1), read_ledger, "none\n- 0 lost -")
        self.raises(BadText(1, 1), read_ledger, "- 0 lost -\nnone")
        self.raises(BadText(1, 0), read_ledger, "none 0 lost -\n")
        self.same(read_ledger("none 0 lost -"), {("none", 0): (False, None)})
        self.raises(BadText(1, 1), read_ledger, "x 0 lost -\nx 0")
        self.raises(BadText(1, 1), read_ledger, "x 0 lost -\nx 0 what")
        self.raises(BadText(2, 1), read_ledger, "- 1 lost -\nx 0 lost -\n- 1 won -")
        self.raises(BadText(1, 1), read_ledger, "x 0 lost -\nx")
        self.raises(BadText(1, 1), read_ledger, "x 0 lost -\nx 00 lost -")
        self.same(read_ledger("x 1 won 0 0\n- 0 lost -\nx 0 lost -"),
                  {("", 0): (False, None), ("x", 0): (False, None), ("x", 1): (True, (0, 0))})
        for text, word in (("x", 1), ("x 0", 2), ("x 0 won", 3), ("x 0 won 1", 4), ("x 0 won - 1", 4), ("x 0 won 1 1 1", 5),
                           ("x 0 Won -", 2), ("-- 0 won -", 0), ("x- 0 won -", 0), ("x 0 won 1 -", 4), ("X 0 won -", 0)):
            self.raises(BadText(0, word), read_ledger, text)

    def test_dicts_belong_to_the_caller(self):
        read_ledger("none")["x", 0] = (True, None)
        self.same(read_ledger("none"), {})
        self.same([list(key) for key in read_ledger("x 1 won -")], [["x", 1]])
