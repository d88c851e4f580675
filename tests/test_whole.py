"""The whole: what one part of the program tells of a game agrees with all others, and with plain play."""

from rowgames.compare import alike, fewest, needless
from rowgames.counts import count, place_of, row_at
from rowgames.desk import Desk
from rowgames.games import Duel, Sides, Some
from rowgames.images import image
from rowgames.kept import kept, look_among
from rowgames.least import least
from rowgames.ledgers import ledger_of, shows_won
from rowgames.lengths import lengths_of
from rowgames.lookers import shows_right
from rowgames.machines import Machine
from rowgames.parted import shows_least, shows_parted
from rowgames.plain import is_won
from rowgames.players import Leftmost, Numbered, Perfect, winner
from rowgames.reader import read, read_game, read_ledger, read_machine
from rowgames.tables import look
from rowgames.texts import write_game, write_ledger, write_machine
from rowgames.ways import shows_way, way
from helpers import Case
from oracle import rows_up_to, wins

TEXTS = """shared last wins
signs x 1 o 0
rule x>o

shared last loses
signs x 1 o 0
rule x>o
rule xx>oo

shared last wins
signs x 2 o 1 z 0
rule [x>o
rule o>z]

sides last wins
signs x 2 o 1 z 0
left x>o
left [o>z
right o>z

sides last loses
signs a 1 b 0
left a>b
right aa>bb
right [a>b

some
signs x 1 o 0
rule xxo>oox
rule oxx>xoo
machine xo
not 1 0
told 2 1
not 2 2

some
signs x 1 o 0
rule x>
rule xo>o]
machine xo
not 1 2
not 1 2
told 2 1

every
signs x 1 o 0
rule xx>o
rule [ox>
machine xo
told 1 0
not 0 1

every
signs k 3
rule kkk>
rule kk>k
machine k
not 1
not 2
told 2""".split("\n\n")


def length_for(game):
    return {1: 9, 2: 6, 3: 5}[len(game.weights)]


def decided():
    """Games of texts with what least tells of them."""
    games = [read_game(text) for text in TEXTS]
    return [(text, game, least(game, 12, rows=20000, stands=20000)) for text, game in zip(TEXTS, games)]


DECIDED = decided()


class TestWhole(Case):
    def test_games_of_all_kinds_are_decided(self):
        self.same(len({type(game) for _, game, _ in DECIDED}), 4)
        self.assertGreater(sum(bool(found) for _, _, found in DECIDED), 5)
        for text, game, found in DECIDED:
            self.same(write_game(game), text)
            if not found:
                self.same(shows_parted(game, found.seat, found.beginnings, found.endings, found.ledger), True)

    def solved(self):
        return [(text, game, found) for text, game, found in DECIDED if found]

    def test_machines_agree_with_plain_play(self):
        for _, game, found in self.solved():
            memo = {}
            for row in rows_up_to(game.weights, length_for(game)):
                for seat in range(game.seats):
                    won = wins(game, row, seat, memo)
                    self.same([found.machines[seat][row], is_won(game, row, seat)], [won, won])

    def test_what_shows_it(self):
        for _, game, found in self.solved():
            self.same(bool(look(game, *found.machines, most=20000)), True)
            self.same(shows_right(game, found.machines, found.table), True)
            self.same(shows_least(game, found.machines, found.table, found.members, found.endings), True)
            self.assertEqual(image(game, *found.machines, most=20000), found.machines)
            every = Machine.every(game.weights.signs)
            self.same(bool(look_among(game, every, *found.machines, most=20000)), True)
            self.same([bool(kept(book, every)) for book in game.books], [True] * game.seats)
            self.same(bool(alike(game, found.machines, game, most=20000)), True)
            few = fewest(game, found.machines, most=20000)
            self.same(bool(alike(game, found.machines, few.game, most=20000)), True)
            for seat, index in needless(game, found.machines, most=20000):
                self.assertIn(index, range(len(game.books[seat])))

    def test_written_and_read_again(self):
        for text, game, found in DECIDED:
            self.assertEqual(read(text), game)
            ledger = ledger_of(game, game.weights.signs * 2, game.seats - 1)
            again = read_ledger(write_ledger(ledger, game.weights))
            won = is_won(game, game.weights.signs * 2, game.seats - 1)
            self.same(shows_won(game, game.weights.signs * 2, game.seats - 1, won, again), True)
            for machine in found.machines if found else ():
                other = read_machine(write_machine(machine))
                self.same([other.signs, other.steps, other.told], [machine.signs, machine.steps, machine.told])

    def test_played(self):
        for _, game, found in self.solved():
            if isinstance(game, Some):
                for row in rows_up_to(game.weights, length_for(game)):
                    if found.machines[0][row]:
                        self.same(shows_way(game, row, way(game, found.machines[0], row)), True)
            if isinstance(game, Duel):
                perfect = Perfect(game, *found.machines)
                for row in rows_up_to(game.weights, length_for(game) - 1):
                    for other in (Leftmost(game), Numbered(game, 3, 1, 2), perfect):
                        if found.machines[0][row]:
                            self.same(winner(game, row, perfect, other), 0)
                        if not found.machines[0][row]:
                            self.same(winner(game, row, other, perfect), 1)

    def test_counted(self):
        for _, game, found in self.solved():
            for seat, machine in enumerate(found.machines):
                memo, rows = {}, []
                for n in range(length_for(game) + 1):
                    won = [row for row in game.weights.rows(n) if wins(game, row, seat, memo)]
                    self.same([count(machine, n), list(machine.rows(n))], [len(won), won])
                    self.same(n in lengths_of(machine), bool(won))
                    self.same(n in lengths_of(machine, every=True), len(won) == len(game.weights) ** n)
                    rows += won
                for at, row in enumerate(rows):
                    self.same([row_at(machine, at), place_of(machine, row)], [row, at])

    def test_told_to_a_desk(self):
        for text, game, found in self.solved():
            lines = text.split("\n")
            desk = Desk()
            desk.say(lines[1])
            goal = [line for line in lines if line.startswith(("told", "not"))]
            for line in lines:
                if line.startswith(("rule", "left", "right")):
                    word, rule = line.split(" ")
                    desk.say(f"rule {int(word == 'right')} {rule}")
            if goal:
                desk.run("machine goal " + " ; ".join(goal), f"game {lines[0]} goal")
            else:
                desk.say(f"game {lines[0]}")
            self.assertEqual(desk.game, game)
            self.same(desk.say("show game"), " / ".join(lines))
            sizes = " ".join(str(len(machine)) for machine in found.machines)
            self.same(desk.say("least 12"), f"least {sizes}")
            names = "a b" if isinstance(game, Sides) else "a"
            self.same(desk.say(f"look {names}"), f"right {len(found.table)}")
            for name, machine in zip("ab", found.machines):
                self.same(desk.say(f"show machine {name}"), write_machine(machine).replace("\n", " / "))
                self.same(desk.say(f"count {name} 7"), str(count(machine, 7)))
                self.same(desk.say(f"keeps {name} 0"), desk("keeps " + name + " 0"))
            memo = {}
            for row in rows_up_to(game.weights, 3):
                for seat in range(game.seats):
                    won = "yes" if wins(game, row, seat, memo) else "no"
                    self.same(desk.say(f"won {row or '-'} {seat}"), won)
