"""The desk, held against one that goes through the table of the document."""

import re

from rowgames.books import Book
from rowgames.compare import needless
from rowgames.counts import count
from rowgames.desk import Desk
from rowgames.errors import (BadBook, BadGame, BadLine, BadMachine, BadNumber, BadRow, BadSeat, BadSigns, GameError,
                             Heavier, NotRight, NotThere, NotWon, TooMany)
from rowgames.games import Every, Shared, Sides, Some
from rowgames.kept import kept
from rowgames.least import least
from rowgames.machines import Machine
from rowgames.plain import is_won, met
from rowgames.rules import Rule
from rowgames.signs import Weights
from rowgames.tables import look
from rowgames.ways import way
from helpers import ODD, Case, values_but
from oracle import moves_of
from test_texts import game_text, machine_text

NUMBER = "0|[1-9][0-9]{0,8}"
SEAT = "0|1"
NAME = "[a-z]{1,8}"
ROW = "-|[a-z]+"
RULE = r"\[?[a-z]{1,4}>[a-z]{0,4}\]?"
FIXED = {"rule": [SEAT, RULE], "drop": [SEAT, NUMBER], "moves": [ROW, SEAT], "won": [ROW, SEAT], "least": [NUMBER],
         "keeps": [NAME, SEAT], "way": [NAME, ROW], "count": [NAME, NUMBER], "undo": []}
KINDS = "|".join([*FIXED, "signs", "machine", "game", "look", "needless", "show"])


def next_word(words):
    """What may come behind the words of a line, and whether they may be all."""
    if not words:
        return KINDS, False
    kind, many = words[0], len(words) - 1
    if kind in FIXED:
        return (FIXED[kind][many] if many < len(FIXED[kind]) else None), many == len(FIXED[kind])
    if kind in ("look", "needless"):
        return NAME, many > 0
    if kind == "signs":
        return ("[a-z]", many > 0) if many % 2 == 0 else (NUMBER, False)
    if kind == "show":
        if many == 0:
            return "game|machine", False
        return (NAME, False) if words[1:] == ["machine"] else (None, True)
    if kind == "game":
        if many == 0:
            return "some|every|shared|sides", False
        if words[1] in ("some", "every"):
            return (NAME, False) if many == 1 else (None, True)
        return [("last", False), ("wins|loses", False), (None, True)][many - 1]
    if many == 0:
        return NAME, False
    if many == 1 or words[-1] == ";":
        return "told|not", False
    return (NUMBER, False) if words[-1] in ("told", "not") else (f"{NUMBER}|;", True)


def wrong_word(line):
    """The index of the first word that cannot stand there, None if there is none."""
    if not isinstance(line, str):
        return 0
    words = []
    for word in line.split(" "):
        wanted = next_word(words)[0]
        if wanted is None or not re.fullmatch(wanted, word):
            return len(words)
        words.append(word)
    return None if next_word(words)[1] else len(words)


def row_word(row):
    return row or "-"


def row_of(word):
    return "" if word == "-" else word


def pair_words(pairs):
    return " ".join(f"{one}.{two}" for one, two in pairs) or "none"


class Model:
    """The desk by the words of the document. What is there is a tuple (weights, rules, machines, game)."""

    def __init__(self):
        self.past = [(None, ((), ()), {}, None)]

    def names(self, words):
        """The names of machines that must be there."""
        kind = words[0]
        if kind in ("look", "needless"):
            return words[1:]
        if kind in ("keeps", "way", "count"):
            return words[1:2]
        if kind == "show":
            return words[2:]
        return words[2:3] if kind == "game" and words[1] in ("some", "every") else []

    def say(self, line):
        at = wrong_word(line)
        if at is not None:
            raise BadLine(at)
        words = line.split(" ")
        weights, rules, machines, game = self.past[-1]
        if words[0] == "undo":
            return "ok" if len(self.past) > 1 and self.past.pop() else "nothing"
        if words[0] != "signs" and weights is None:
            raise NotThere("signs")
        if (words[0] in ("moves", "won", "look", "least", "needless", "way") or words[:2] == ["show", "game"]) and not game:
            raise NotThere("game")
        for name in self.names(words):
            if name not in machines:
                raise NotThere(name)
        answer = getattr(self, words[0])(words[1:], *self.past[-1])
        if isinstance(answer, tuple):
            self.past.append(answer[1])
            return answer[0]
        return answer

    def signs(self, words, *state):
        return "ok", (Weights(*[(words[k], int(words[k + 1])) for k in range(0, len(words), 2)]), ((), ()), {}, None)

    def rule(self, words, weights, rules, machines, game):
        seat = int(words[0])
        further = rules[seat] + (Rule.read(words[1]),)
        Book(weights, *further)
        return "ok", (weights, (further, rules[1]) if seat == 0 else (rules[0], further), machines, None)

    def drop(self, words, weights, rules, machines, game):
        seat, at = int(words[0]), int(words[1])
        if at >= len(rules[seat]):
            raise BadBook(at)
        left = rules[seat][:at] + rules[seat][at + 1:]
        return "ok", (weights, (left, rules[1]) if seat == 0 else (rules[0], left), machines, None)

    def machine(self, words, weights, rules, machines, game):
        states = [state.split(" ") for state in " ".join(words[1:]).split(" ; ")]
        found = Machine(weights.signs, [[int(one) for one in state[1:]] for state in states],
                        [state[0] == "told" for state in states])
        return "ok", (weights, rules, {**machines, words[0]: found}, game)

    def game(self, words, weights, rules, machines, game):
        one, two = Book(weights, *rules[0]), Book(weights, *rules[1])
        if words[0] in ("some", "every"):
            found = (Some if words[0] == "some" else Every)(one, machines[words[1]])
        elif words[0] == "shared":
            found = Shared(one, last=words[2] == "wins")
        else:
            found = Sides(one, two, last=words[2] == "wins")
        return "ok", (weights, rules, machines, found)

    def moves(self, words, weights, rules, machines, game):
        met(game, row_of(words[0]), int(words[1]), most=20000)
        return pair_words([move for move, _ in moves_of(game.books[int(words[1])].rules, row_of(words[0]))])

    def won(self, words, weights, rules, machines, game):
        return "yes" if is_won(game, row_of(words[0]), int(words[1])) else "no"

    def look(self, words, weights, rules, machines, game):
        found = look(game, *[machines[name] for name in words])
        return f"right {len(found.table)}" if found else f"wrong {row_word(found.row)} {found.seat}"

    def least(self, words, weights, rules, machines, game):
        found = least(game, int(words[0]))
        if found:
            kept_now = {**machines, **dict(zip("ab", found.machines))}
            return " ".join(["least"] + [str(len(one)) for one in found.machines]), (weights, rules, kept_now, game)
        return " ".join(["parted", str(found.seat)] + [row_word(row) for row in found.beginnings])

    def keeps(self, words, weights, rules, machines, game):
        found = kept(Book(weights, *rules[int(words[1])]), machines[words[0]])
        return "yes" if found else f"{row_word(found.row)} {found.move[0]}.{found.move[1]}"

    def needless(self, words, weights, rules, machines, game):
        return pair_words(needless(game, [machines[name] for name in words]))

    def way(self, words, weights, rules, machines, game):
        return pair_words(way(game, machines[words[0]], row_of(words[1])))

    def count(self, words, weights, rules, machines, game):
        return str(count(machines[words[0]], int(words[1])))

    def show(self, words, weights, rules, machines, game):
        text = game_text(game) if words[0] == "game" else machine_text(machines[words[1]])
        return text.replace("\n", " / ")


START = ["signs x 1 o 0", "rule 0 x>o", "rule 1 [x>", "machine odd not 1 0 ; told 0 1", "machine none not 0 0",
         "game shared last wins"]
SIDES = ["signs x 2 o 1 z 0", "rule 0 x>o", "rule 1 o>z", "machine no not 0 0 0", "machine ao not 0 1 0 ; told 1 1 1",
         "game sides last wins"]
ALONE = ["signs x 1 o 0", "rule 0 x>o", "rule 0 xx>oo", "machine bare told 1 0 ; not 1 1", "machine all told 0 0",
         "game some bare"]
LINES = ["signs x 1 o 0", "signs b 3 a 1 c 0", "rule 0 xx>o", "rule 1 xox>]", "drop 0 0", "drop 1 0",
         "machine m told 0 1 ; not 1 0", "machine odd told 0 0", "game some odd", "game every none", "game shared last wins",
         "game shared last loses", "game sides last wins", "game sides last loses", "moves xox 0", "moves - 0", "moves xx 1",
         "won xox 0", "won - 0", "won x 1", "look odd", "look none", "look no ao", "look ao ao", "look odd none", "least 1", "least 2",
         "least 12", "keeps odd 0", "keeps none 1", "keeps ao 1", "needless odd", "needless no ao", "needless all", "way all xox",
         "way bare -", "way all -", "count odd 3", "count none 1000", "show game", "show machine odd", "show machine all", "undo"]
WORDS = ["", "x", "xo", "q", "-", "0", "1", "2", "01", "1000000000", "x>o", "odd", "none", "abcdefghi", ";", "told", "not",
         "last", "wins", "loses", "game", "machine", "some", "sides", "undo", "show", "X", "0.0"]


def changed(line):
    """Lines with a word left out, put in or exchanged, or with two words left out or exchanged."""
    words = line.split(" ")
    for at in range(len(words)):
        yield words[:at] + words[at + 1:]
        yield words[:at] + words[at + 2:]
        yield words[:at] + words[at:at + 2][::-1] + words[at + 2:]
        yield words[:at] + [words[at] * 2] + words[at + 1:]
        for word in WORDS:
            yield words[:at] + [word] + words[at:]
            yield words[:at] + [word] + words[at + 1:]
            yield words[:at] + [word, WORDS[-at]] + words[at + 2:]
    for word in WORDS:
        yield words + [word]


class DeskCase(Case):
    def held(self, desk, model, line):
        """What a line answers or raises, held against the model, with all that can be seen then."""
        before = [desk.game, desk.names, len(desk)]
        try:
            wanted = model.say(line)
        except GameError as error:
            self.raises(error, desk.say, line)
            self.assertIs(desk.game, before[0])
            self.same([desk.names, len(desk)], before[1:])
            return type(error).__name__
        self.same(desk.say(line), wanted)
        self.seen(desk, model)
        return wanted

    def seen(self, desk, model):
        self.same(len(desk), len(model.past) - 1)
        self.same(desk.names, tuple(sorted(model.past[-1][2])))
        if model.past[-1][3] is None:
            self.assertIs(desk.game, None)
        else:
            self.assertEqual(desk.game, model.past[-1][3])

    def started(self, lines):
        desk, model = Desk(), Model()
        for line in lines:
            self.held(desk, model, line)
        return desk, model


class TestLines(DeskCase):
    def test_each_line_in_each_place(self):
        seen = set()
        for start in ([], START[:1], START[:-1], START, SIDES, ALONE, ALONE[:-1] + ["game every bare"],
                      SIDES[:-1] + ["game sides last loses"]):
            for line in LINES:
                desk, model = self.started(start)
                answer = self.held(desk, model, line)
                seen.add((line.split(" ")[0], answer.split(" ")[0]))
                self.held(desk, model, "undo")
        for kind in ("signs", "rule", "drop", "machine", "game"):
            self.assertIn((kind, "ok"), seen)
        for pair in (("won", "yes"), ("won", "no"), ("look", "right"), ("look", "wrong"), ("least", "least"),
                     ("least", "parted"), ("keeps", "yes"), ("keeps", "x"), ("needless", "none"), ("needless", "0.1"),
                     ("way", "0.0"), ("way", "none"), ("moves", "none"), ("undo", "nothing"), ("undo", "ok"),
                     ("way", "BadGame"), ("moves", "BadSeat"), ("look", "BadGame"), ("drop", "BadBook")):
            self.assertIn(pair, seen)

    def test_words_left_out_put_in_and_exchanged(self):
        seen = {}
        for start in ([], START, SIDES):
            desk, model = self.started(start)
            for line in LINES:
                for words in changed(line):
                    name = self.held(desk, model, " ".join(words))
                    seen[name] = seen.get(name, 0) + 1
                    while len(desk) > len(start):
                        self.held(desk, model, "undo")
                    for kept_line in start[len(desk):]:
                        self.held(desk, model, kept_line)
        self.assertGreater(seen["BadLine"], 1000)
        self.assertGreater(seen["NotThere"], 100)

    def test_one_line_after_another(self):
        for at in range(7):
            desk, model = Desk(), Model()
            lines = START + LINES + SIDES + LINES[::-1] + ALONE + LINES
            for number in range(3 * len(lines)):
                self.held(desk, model, lines[(number * (2 * at + 1) + number // 5) % len(lines)])
            while len(desk) > 0:
                self.same(desk.say("undo"), "ok")
                model.say("undo")
                self.seen(desk, model)
            self.same(desk.say("undo"), "nothing")

    def test_what_is_no_line(self):
        desk = Desk()
        for value in values_but():
            if not isinstance(value, str):
                self.raises(BadLine(0), desk.say, value)
                self.raises(BadLine(0), desk, value)
                self.raises(BadLine(0), desk.run, value)
        for line in ("", " ", "\n", "undo\n", "UNDO", "look\nodd", " undo", "~" * 12000):
            self.raises(BadLine(0), desk.say, line)
        for line, word in (("undo ", 1), ("won  x 0", 1), ("won x 2", 2), ("won x", 2), ("won", 1), ("won x 0 0", 3),
                           ("rule 0 x", 2), ("signs", 1), ("signs x", 2), ("signs x 1 o", 4), ("look", 1), ("look a ", 2),
                           ("machine m", 2), ("machine m told", 3), ("machine m told 0 ;", 5), ("machine m told ; told 0", 3),
                           ("machine m told 0 told 0", 4), ("game", 1), ("game some", 2), ("game shared", 2),
                           ("game shared last", 3), ("game shared last wins x", 4), ("game some m x", 3), ("show", 1),
                           ("show game x", 2), ("show machine", 2), ("show machine m x", 3), ("keeps m 2", 2),
                           ("count m -", 2), ("way m 0", 2), ("least -", 1), ("machine abcdefghi told 0", 1),
                           ("rule 0 abcde>", 2), ("drop 0 01", 2), ("won x 0\n", 2)):
            self.raises(BadLine(word), desk.say, line)


class TestErrors(DeskCase):
    def test_what_is_not_there(self):
        for line in LINES:
            if not line.startswith(("signs", "undo")):
                self.raises(NotThere("signs"), Desk().say, line)
        desk = Desk()
        desk.run(*START[:-1])
        for line in ("moves q 1", "won q 1", "look none what", "least 0", "needless what", "way what q", "show game"):
            self.raises(NotThere("game"), desk.say, line)
        desk.say(START[-1])
        for line in ("look odd what then", "look what odd then", "needless what", "way what q", "count what 1001", "keeps what 1",
                     "show machine what", "game some what", "game every what"):
            self.raises(NotThere("what"), desk.say, line)

    def test_from_the_left(self):
        desk = Desk()
        self.raises(BadSigns(1), desk.say, "signs x 1 x 2 o 10")
        self.raises(BadSigns("many"), desk.say, "signs a 1 b 1 c 1 d 1 e 10")
        self.raises(BadSigns(0), desk.say, "signs x 10")
        desk.run(*START)
        self.raises(BadBook(1), desk.say, "rule 0 q>")
        self.raises(BadBook(1), desk.say, "rule 0 x>o")
        self.same(desk.say("rule 1 x>o"), "ok")
        self.raises(BadBook(2), desk.say, "rule 1 x>o")
        self.raises(Heavier(2), desk.say, "rule 1 xo>x")
        self.raises(BadBook(2), desk.say, "drop 1 2")
        self.raises(BadBook(999999999), desk.say, "drop 0 999999999")
        self.raises(BadMachine("steps"), desk.say, "machine m told 0")
        self.raises(BadMachine("steps"), desk.say, "machine m told 0 0 ; told 2 0")
        self.raises(BadMachine("steps"), desk.say, "machine m told 0 0 ; told 1 0 0")
        desk.say("game shared last wins")
        self.raises(BadSeat(1), desk.say, "moves q 1")
        self.raises(BadRow(1), desk.say, "moves xq 0")
        self.raises(BadSeat(1), desk.say, "won q 1")
        self.raises(BadRow(0), desk.say, "won q 0")
        self.raises(TooMany("rows", 2000), desk.say, "won " + "x" * 12 + " 0")
        self.raises(BadGame("machines"), desk.say, "look odd odd")
        self.raises(BadNumber("most"), desk.say, "least 0")
        self.raises(BadNumber("most"), desk.say, "least 13")
        self.raises(NotRight("x", 0), desk.say, "needless none")
        self.raises(BadGame("machines"), desk.say, "needless odd odd")
        self.raises(BadGame("kind"), desk.say, "way odd q")
        self.raises(BadNumber("n"), desk.say, "count odd 1001")
        desk.run("machine bare told 1 0 ; not 1 1", "game some bare")
        self.raises(BadRow(0), desk.say, "way none q")
        self.raises(NotWon("x"), desk.say, "way bare x")

    def test_eight_rules_of_a_seat(self):
        desk = Desk()
        desk.say("signs x 1 o 0")
        rules = ["[x>o]", "[x>]", "x>o]", "x>]", "[x>o", "[x>", "x>o", "x>"]
        for seat in (0, 1):
            desk.run(*[f"rule {seat} {rule}" for rule in rules])
            self.raises(BadBook(None), desk.say, f"rule {seat} xx>")
        self.same(desk.run("drop 0 7", "rule 0 xx>", "game sides last wins")[-1], "ok")
        self.same([str(rule) for rule in desk.game.books[0].rules], rules[:7] + ["xx>"])
        self.same([str(rule) for rule in desk.game.books[1].rules], rules)

    def test_a_line_that_raises_changes_nothing(self):
        desk, model = self.started(START)
        for line in ("signs x 10", "rule 0 q>", "drop 0 1", "machine odd told 0", "game some what", "least 0", "won q 0", 7):
            self.held(desk, model, line)
        self.same(desk.say("look odd"), "right 8")
        self.same(desk.say("show machine odd"), "machine xo / not 1 0 / told 0 1")


class TestChanges(DeskCase):
    def test_what_signs_rule_and_drop_leave(self):
        desk, _ = self.started(START)
        game = desk.game
        self.same(desk.say("rule 1 xx>"), "ok")
        self.same([desk.game, desk.names], [None, ("none", "odd")])
        self.same(desk.say("undo"), "ok")
        self.assertIs(desk.game, game)
        self.same(desk.say("drop 1 0"), "ok")
        self.same([desk.game, desk.names], [None, ("none", "odd")])
        desk.say("undo")
        self.same(desk.say("signs x 1 o 0"), "ok")
        self.same([desk.game, desk.names], [None, ()])
        self.same(desk.run("game sides last wins", "show game"), ["ok", "sides last wins / signs x 1 o 0"])

    def test_a_game_keeps_its_goal(self):
        desk, _ = self.started(ALONE)
        game = desk.game
        self.same(desk.say("machine bare not 0 0"), "ok")
        self.assertIs(desk.game, game)
        self.same(desk.say("show game"), "some / signs x 1 o 0 / rule x>o / rule xx>oo / machine xo / told 1 0 / not 1 1")
        self.same(desk.say("show machine bare"), "machine xo / not 0 0")
        self.same(desk.run("undo", "show machine bare"), ["ok", "machine xo / told 1 0 / not 1 1"])

    def test_rules_as_they_are(self):
        desk, _ = self.started(START)
        self.same(desk.game.books[0].rules, (Rule("x", "o"),))
        self.same(desk.run("game sides last loses", "show game")[1], "sides last loses / signs x 1 o 0 / left x>o / right [x>")
        self.same(desk.game.last, False)
        self.same(desk.run("drop 0 0", "game shared last wins", "show game")[2], "shared last wins / signs x 1 o 0")

    def test_which_machines_least_keeps(self):
        desk, _ = self.started(START)
        self.same(desk.say("least 1"), "parted 0 - x")
        self.same([desk.names, len(desk)], [("none", "odd"), 6])
        self.same(desk.say("least 2"), "least 2")
        self.same([desk.names, len(desk)], [("a", "none", "odd"), 7])
        self.same(desk.say("look a"), "right 8")
        self.same(desk.run("machine b told 0 0", "least 3", "show machine b"), ["ok", "least 2", "machine xo / told 0 0"])
        self.same(desk.run("undo", "undo", "undo"), ["ok"] * 3)
        self.same([desk.names, len(desk)], [("none", "odd"), 6])
        desk, _ = self.started(SIDES)
        answers = desk.run("least 2", "look a b", "look no ao", "show machine a", "show machine b")
        self.same(answers[0], "least 1 2")
        self.same(answers[1], answers[2])
        self.same(answers[3:], ["machine xoz / not 0 0 0", "machine xoz / not 0 1 0 / told 1 1 1"])
        self.same(desk.names, ("a", "ao", "b", "no"))

    def test_undo(self):
        desk = Desk()
        self.same([desk.say("undo"), len(desk), desk.game, desk.names], ["nothing", 0, None, ()])
        desk.run(*START)
        desk.run("won x 0", "moves x 0", "look odd", "show game", "count odd 2")
        self.same(len(desk), 6)
        for left in range(5, -1, -1):
            self.same([desk.say("undo"), len(desk)], ["ok", left])
        self.same([desk.say("undo"), len(desk)], ["nothing", 0])
        self.raises(NotThere("signs"), desk.say, "rule 0 x>o")

    def test_undo_and_go_on(self):
        desk, model = self.started(START)
        for line in ("undo", "undo", "machine other told 0 0", "undo", "undo", "rule 0 xx>", "undo", "game sides last wins"):
            self.held(desk, model, line)


class TestRun(DeskCase):
    def test_answers(self):
        desk = Desk()
        self.same(desk.run(), [])
        self.same(desk.run(*START, "look odd"), ["ok"] * 6 + ["right 8"])
        answers = desk.run("undo")
        answers.clear()
        self.same(desk.run("undo", "undo", "undo", "undo", "undo", "undo"), ["ok"] * 5 + ["nothing"])

    def test_an_error_takes_all_lines_back(self):
        desk, model = self.started(START)
        game = desk.game
        lines = ["undo", "undo", "drop 0 0", "rule 0 x>o", "machine new told 0 0", "game every new", "least 3", "won x 0"]
        for wrong, error in (("won q 0", BadRow(0)), ("what", BadLine(0)), (None, BadLine(0)), ("look other", NotThere("other")),
                             ("rule 0 x>o", BadBook(1)), ("signs x 10", BadSigns(0)), ("least 13", BadNumber("most"))):
            self.raises(error, desk.run, *lines, wrong)
            self.assertIs(desk.game, game)
            self.seen(desk, model)
        self.raises(NotThere("signs"), desk.run, *["undo"] * 9, "rule 0 x>o")
        self.raises(NotThere("game"), desk.run, "signs x 1", "won x 0")
        self.raises(BadLine(0), desk.run, "what", "undo")
        self.seen(desk, model)
        self.same(desk.run("look odd", "undo"), ["right 8", "ok"])

    def test_called(self):
        desk = Desk()
        self.same([desk("signs x 1 o 0"), desk(line="undo"), desk.say(line="undo")], ["ok", "ok", "nothing"])

    def test_two_desks(self):
        one, other = Desk(), Desk()
        one.run(*START)
        self.same([other.game, other.names, len(other)], [None, (), 0])
        self.assertIsInstance(vars(Desk)["names"], property)
        self.assertIn("game", vars(other))

    def test_names_ascending(self):
        desk = Desk()
        desk.run("signs x 1", *[f"machine {name} told 0" for name in ("b", "zz", "a", "aa", "abcdefgh", "b")])
        self.same([desk.names, len(desk)], [("a", "aa", "abcdefgh", "b", "zz"), 7])
        self.same(desk.say("show machine zz"), "machine x / told 0")

    def test_words_of_the_answers(self):
        desk = Desk()
        desk.run("signs x 1 o 0", "rule 0 x>o", "rule 0 x>", "game shared last loses", "machine odd not 1 0 ; told 0 1")
        self.same(desk.run("moves oxx 0", "won - 0", "won x 0", "look odd", "least 1"),
                  ["1.0 1.1 2.0 2.1", "yes", "no", "wrong - 0", "parted 0 - x"])
        self.same(desk.run("machine all told 0 0", "keeps all 0", "keeps odd 0", "keeps odd 1"), ["ok", "yes", "x 0.0", "yes"])
        self.same(desk.run("least 2", "needless a"), ["least 2", "0.0 0.1"])
        self.assertEqual(desk.game, Shared(Book(Weights(("x", 1), ("o", 0)), Rule("x", "o"), Rule("x", "")), last=False))
        self.same(bool(look(desk.game, ~ODD)), True)
