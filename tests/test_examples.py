"""The examples of the document, word for word, one after another."""

import os
import unittest

from helpers import DOC, Case, Transcript

SIGNS = """
>>> from rowgames.signs import Weights
>>> weights = Weights(("x", 1), ("o", 0))
>>> [weights.signs, weights("xoxx"), weights.place("xox"), list(weights.rows(2)), weights["o"]]
['xo', 3, (2, 3, (0, 1, 0)), ['xx', 'xo', 'ox', 'oo'], 0]
>>> sorted(["x", "oo", "", "xo", "xx", "o", "ox"], key=weights.place)
['', 'o', 'oo', 'x', 'xo', 'ox', 'xx']
>>> Weights(("x", 1), ("x", 0))
raises BadSigns(1)
>>> weights("xyo")
raises BadRow(1)
"""

BOOKS = """
>>> from rowgames.books import Book
>>> from rowgames.rules import Rule
>>> pegs = Book(weights, Rule("xxo", "oox"), Rule.read("oxx>xoo"))
>>> [pegs.longest, pegs("xxoxx"), pegs.led("xxoxx", (2, 1)), pegs.led_to("xxo"), pegs.finished("xx")]
[3, [(0, 0), (2, 1)], 'xxxoo', ['oox'], True]
>>> edge = Rule("x", "", right=True)
>>> [str(edge), str(-edge), list(edge.places("xox")), edge("xox", 2), str(Rule("xx", "o") * 2), -pegs == Book(weights, pegs[1], pegs[0])]
['x>]', '[x>', [2], 'xo', 'xxxx>oo', True]
>>> Book(weights, Rule("x", "o"), Rule("o", "oo"))
raises Heavier(1) from Unlessened(0, 0)
>>> pegs.led("xxo", (0, 1))
raises BadMove('place')
"""

ROWS = """
>>> from rowgames.rows import Row
>>> row = Row(pegs, "oxxoo")
>>> [row.play((1, 0)), row.played, row.back(), row.text, row[1:3], row.weight]
['oooxo', ((1, 0),), (1, 0), 'oxxoo', 'xx', 2]
"""

MACHINES = """
>>> from rowgames.machines import Machine
>>> even = Machine("xo", [[1, 0], [0, 1]], [True, False])
>>> [even["xox"], even[""], even.state("xxx"), even.step(1, "xo"), "ox" in even, 7 in even, len(even)]
[True, True, 1, 0, False, False, 2]
>>> even == Machine.modulo("xo", "x", 2)
True
>>> one = Machine.counting("xo", "o", 1)
>>> both = even & one
>>> [both.first(), list(both.rows(3)), both < one, bool(both - even), (even ^ one).first()]
['o', ['xxo', 'xox', 'oxx'], True, False, '']
>>> pair = Machine.having("xo", "xx")
>>> [pair.steps, pair.told, Machine.just("xo", "xx", "xxo") <= pair, len((pair | ~pair).least())]
[((1, 0), (2, 0), (2, 2)), (False, False, True), True, 1]
>>> ends = Machine("xo", ((1, 0), (1, 0)), (False, True))
>>> [ends.turned().steps, ends.turned().told]
[((1, 2), (1, 1), (2, 2)), (False, True, False)]
>>> ends.turned(most=2)
raises TooMany('states', 2)
>>> even["xxy"]
raises BadRow(2)
"""

GAMES = """
>>> from rowgames.games import Every, Shared, Sides, Some
>>> flip = Book(weights, Rule("x", "o"))
>>> game = Shared(flip)
>>> [game.seats, game.judge(0), game.longest, game.reads(False, []), game.reads(False, [True, False]), game.reads(False, [True])]
[1, 0, 1, False, True, False]
>>> lose = Shared(flip, last=False)
>>> [lose.reads(False, []), Every(flip, Machine.none("xo")).reads(True, []), Every(flip, Machine.none("xo")).reads(True, [True, False])]
[True, True, False]
>>> [Sides(flip, flip).judge(0), game == Shared(flip), game == lose]
[1, True, False]
>>> Some(flip, Machine.none("ox"))
raises OtherSigns('goal')
"""

LEDGERS = """
>>> from rowgames.ledgers import ledger_of, shows_won
>>> from rowgames.plain import is_won, met
>>> [is_won(game, row) for row in ["", "x", "xx", "xox", "xxx"]]
[False, True, False, False, True]
>>> [met(game, "xx"), ledger_of(game, "ox")]
[[('oo', 0), ('xo', 0), ('ox', 0), ('xx', 0)], {('oo', 0): (False, None), ('ox', 0): (True, (1, 0))}]
>>> [shows_won(game, "ox", 0, True, ledger_of(game, "ox")), shows_won(game, "ox", 0, True, {("ox", 0): (True, (1, 0))})]
[True, False]
>>> is_won(game, "xxxx", most=15)
raises TooMany('rows', 15)
"""

IMAGES = """
>>> from rowgames.images import image, led_into, stuck, within
>>> odd = Machine("xo", ((1, 0), (0, 1)), (False, True))
>>> [stuck(flip) == ~Machine.having("xo", "x"), led_into(flip, ~odd) == odd]
[True, True]
>>> [image(game, odd) == (odd,), image(game, Machine.none("xo")) == (Machine.having("xo", "x"),)]
[True, True]
>>> found = []
>>> for machine in within(Some(flip, stuck(flip))):
...     found.append([machine["xox"], machine["xoxx"]])
...     if len(found) == 4:
...         break
>>> found
[[False, False], [False, False], [True, False], [True, True]]
"""

STANDS = """
>>> from rowgames.stands import next_stand, passes, stand_at, stands
>>> [stand_at(game, [odd], "xx"), next_stand(game, [odd], stand_at(game, [odd], "xx"), "o")]
[(False, (1,), 'x', ((1,),), None), (False, (0,), 'o', ((1,),), None)]
>>> [row for stand, row in stands(game, [odd])]
['', 'o', 'oo', 'x', 'xo', 'ox', 'xx', 'xxo']
>>> [passes(game, [odd], stand_at(game, [odd], "xx"), 0), passes(game, [Machine.none("xo")], stand_at(game, [Machine.none("xo")], "ox"), 0)]
[True, False]
>>> whole = Shared(Book(weights, Rule("xx", "o", left=True, right=True)))
>>> [stand_at(whole, [odd], row)[:4] for row in ("xx", "xxx")]
[(True, (0,), 'xx', ((),)), (False, (1,), 'xx', ((),))]
"""

LOOKERS = """
>>> from rowgames.lookers import shows_right, shows_wrong
>>> from rowgames.tables import look
>>> found = look(game, odd)
>>> [bool(found), len(found.table), found.table[0], shows_right(game, [odd], found.table), shows_right(game, [odd], found.table[1:])]
[True, 8, (True, (0,), '', ((),), None), True, False]
>>> none = Machine.none("xo")
>>> wrong = look(game, none)
>>> [wrong.row, wrong.seat, wrong.bounds]
['x', 0, (((True, (0,), '', ((),), None), ''), ((True, (0,), 'o', ((),), None), 'o'), ((False, (0,), 'o', ((),), None), 'oo'))]
>>> [shows_wrong(game, [none], "x", 0, wrong.bounds), shows_wrong(game, [none], "xo", 0, wrong.bounds), shows_wrong(game, [none], "x", 0, ())]
[True, False, False]
>>> V = Weights(("x", 2), ("o", 1), ("z", 0))
>>> sides = Sides(Book(V, Rule("x", "o")), Book(V, Rule("o", "z")))
>>> [bool(look(sides, Machine.none("xoz"), Machine.having("xoz", "o"))), look(sides, Machine.none("xoz"), Machine.none("xoz")).row]
[True, 'o']
>>> look(game, odd, most=7)
raises TooMany('stands', 7)
"""

PARTED = """
>>> from rowgames.least import least, sizes
>>> from rowgames.parted import shows_least, shows_parted
>>> found = least(game, 2)
>>> (bool(found), found.members, found.endings, found.machines[0].steps, found.machines[0].told)
(True, (('', 'x'),), (((0, 1, ''),),), ((1, 0), (0, 1)), (False, True))
>>> shows_least(game, found.machines, found.table, found.members, found.endings)
True
>>> bar = least(game, 1)
>>> (bool(bar), bar.seat, bar.beginnings, bar.endings)
(False, 0, ('', 'x'), ((0, 1, ''),))
>>> bar.ledger == {("", 0): (False, None), ("o", 0): (False, None), ("x", 0): (True, (0, 0))}
True
>>> [bool(one) for one in sizes(game, 9)]
[False, True]
>>> pairs = Shared(Book(weights, Rule("xx", "oo")))
>>> bar = least(pairs, 3)
>>> bar.beginnings
('', 'x', 'xx', 'xxx')
>>> bar.endings
((0, 1, 'x'), (0, 2, ''), (0, 3, ''), (1, 2, ''), (1, 3, ''), (2, 3, 'xx'))
>>> shows_parted(pairs, 0, bar.beginnings, bar.endings, bar.ledger)
True
"""

KEPT = """
>>> from rowgames.kept import kept, look_among, shows_kept
>>> twice = Machine.having("xo", "xx")
>>> bent = odd - twice
>>> [look(game, bent).row, bool(look_among(game, ~twice, bent)), bool(kept(flip, ~twice))]
['xxx', True, True]
>>> [kept(flip, twice).row, kept(flip, twice).move, shows_kept(flip, ~twice, kept(flip, ~twice).table[::-1])]
['xx', (0, 0), True]
>>> look_among(game, twice, bent)
raises NotKept('xx')
"""

COMPARE = """
>>> from rowgames.compare import alike, fewest, needless, outcomes
>>> found = alike(game, [odd], Shared(flip + Rule("xx", "oo")))
>>> [bool(found), found.row, found.seat]
[False, 'xx', 0]
>>> wide = Shared(Book(Weights(("x", 1), ("o", 0), ("p", 0)), Rule("x", "o"), Rule("x", "p")))
>>> three = [Machine("xop", ((1, 0, 0), (0, 1, 1)), (False, True))]
>>> [needless(wide, three), fewest(wide, three).choice, fewest(wide, three).reasons]
[((0, 0), (0, 1)), ((0,),), [(((),), 'x', 0)]]
>>> told = outcomes(sides, [Machine.none("xoz"), Machine.having("xoz", "o")])
>>> [told[word].first() for word in ("left", "right", "first", "second")]
[None, 'o', None, '']
>>> alike(game, [~odd], game)
raises NotRight('', 0)
"""

PLAYERS = """
>>> from rowgames.players import Leftmost, Numbered, Perfect, Seer, contest, winner
>>> perfect = Perfect(game, odd)
>>> list(contest(game, "xxx", perfect, Leftmost(game)))
[(0, (0, 0), 'oxx'), (1, (1, 0), 'oox'), (0, (2, 0), 'ooo')]
>>> [winner(game, "xxx", perfect, Numbered(game, 1)), winner(game, "xx", Leftmost(game), perfect)]
[0, 1]
>>> [perfect.winning("oxx" * 3), list(Seer(game, odd).all_winning("oxxx"))]
[None, [(1, 0), (2, 0), (3, 0)]]
"""

WAYS = """
>>> from rowgames.ways import shows_way, way
>>> bare = Some(flip, ~Machine.having("xo", "x"))
>>> [way(bare, Machine.every("xo"), "xox"), shows_way(bare, "xox", [(2, 0), (0, 0)]), shows_way(bare, "xox", [(2, 0)])]
[[(0, 0), (2, 0)], True, False]
>>> way(bare, Machine.none("xo"), "x")
raises NotWon('x')
"""

LENGTHS = """
>>> from rowgames.counts import count, place_of, remainder, row_at
>>> from rowgames.lengths import Lengths, lengths_of
>>> [count(even, 3), count(even, 0), count(both, 5), remainder(even, 10 ** 18, 7)]
[4, 1, 5, 1]
>>> [row_at(even, k) for k in range(6)]
['', 'o', 'xx', 'oo', 'xxo', 'xox']
>>> [place_of(even, "oxo"), place_of(one, "xx"), row_at(Machine.just("xo", "x"), 1)]
[7, 1, None]
>>> told = lengths_of(both)
>>> [told.lead, told.period, told.answers, 10 ** 17 in told, told.first(4), told.up_to(9), told.from_on()]
[0, 2, (False, True), False, 5, 5, None]
>>> whole = lengths_of(even, every=True)
>>> [whole.lead, whole.period, whole.answers, (~whole).from_on(), bool(whole & told)]
[1, 1, (True, False), 1, False]
>>> Lengths(2, 2, [True, False, True, False]) == Lengths(0, 2, (True, False))
True
"""

TEXTS = r"""
>>> from rowgames.reader import read, read_book, read_game, read_ledger, read_machine
>>> from rowgames.texts import write_book, write_game, write_ledger, write_machine
>>> write_machine(odd).split("\n")
['machine xo', 'not 1 0', 'told 0 1']
>>> write_game(Some(flip, Machine("xo", ((1, 0), (1, 1)), (True, False)))).split("\n")
['some', 'signs x 1 o 0', 'rule x>o', 'machine xo', 'told 1 0', 'not 1 1']
>>> read_game("shared last loses\nsigns x 1 o 0\nrule x>o") == Shared(flip, last=False)
True
>>> write_ledger(ledger_of(game, "xo"), weights).split("\n")
['oo 0 lost -', 'xo 0 won 0 0']
>>> read_ledger("- 0 lost -") == {("", 0): (False, None)}
True
>>> read_book("signs x 1 o")
raises BadText(0, 4)
>>> read_machine("machine xo\nnot 1 0 0")
raises BadText(1, 3)
>>> read_machine("machine xo\nnot 1 0")
raises BadMachine('steps')
>>> read_book("signs x 1 o 0\nrule o>x")
raises Heavier(0)
>>> read("shared last\nsigns x 1")
raises BadText(0, 2)
"""

DESK = """
>>> from rowgames.desk import Desk
>>> desk = Desk()
>>> desk.run("signs x 1 o 0", "rule 0 x>o", "machine odd not 1 0 ; told 0 1", "game shared last wins", "look odd")
['ok', 'ok', 'ok', 'ok', 'right 8']
>>> desk.run("least 1", "least 2", "won xx 0", "moves xx 0", "count a 3", "keeps odd 0", "undo", "undo")
['parted 0 - x', 'least 2', 'no', '0.0 1.0', '4', 'x 0.0', 'ok', 'ok']
>>> [desk.game, desk.say("show machine odd"), len(desk)]
[None, 'machine xo / not 1 0 / told 0 1', 3]
>>> desk.say("rule 0 x")
raises BadLine(2)
>>> desk.say("look odd")
raises NotThere('game')
"""

WORD_FOR_WORD = (SIGNS, BOOKS, ROWS, MACHINES, GAMES, LEDGERS, IMAGES, STANDS, LOOKERS, PARTED, KEPT, COMPARE, PLAYERS,
                 WAYS, LENGTHS, TEXTS, DESK)


class TestExamples(Case):
    def test_each_after_the_other(self):
        transcript = Transcript(self)
        for text in WORD_FOR_WORD:
            transcript.run(text)

    def test_what_stands_behind_the_examples(self):
        transcript = Transcript(self)
        for text in WORD_FOR_WORD:
            transcript.run(text)
        names = transcript.names
        self.same([names["even"][""], names["one"][""]], [True, False])
        game, bar = names["game"], names["bar"]
        self.same(len(names["met"](game, "xxxx")), 16)
        self.assertNotIn(("oo", 0), {("ox", 0): (True, (1, 0))})
        self.same([bool(names["stuck"](names["flip"])["xox"]), game.longest], [False, 1])
        self.same(names["look"](game, names["none"], most=4).row, "x")
        won = names["is_won"]
        self.same([won(names["pairs"], row) for row in ("x", "o", "xx", "xxx", "x" * 5)], [False, False, True, True, False])
        self.same([bar.ledger["xx", 0][0], bar.ledger["xxx", 0][0], bar.ledger["xxxxx", 0][0]], [True, True, False])

    @unittest.skipUnless(os.path.exists(DOC), "the document is not here")
    def test_word_for_word(self):
        with open(DOC, encoding="utf-8") as file:
            document = file.read()
        for text in WORD_FOR_WORD:
            self.assertIn("```\n" + text.strip() + "\n```", document)
        self.assertEqual(document.count("```\n>>> "), len(WORD_FOR_WORD))
