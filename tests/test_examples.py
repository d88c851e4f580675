"""The examples of the document, word for word, one after another."""

import os
import unittest

from helpers import DOC, Case, Transcript

SIGNS = """
>>> from rowgames.signs import Weights
>>> weights = Weights(("x", 1), ("o", 0))
>>> [weights.signs, weights("xoxx"), weights.place("xox"), list(weights.rows(2)), weights["o"]]
['xo', 3, (2, 3, (0, 1, 0)), ['xx', 'xo', 'ox', 'oo'], 0]
>>> sorted(["x", "oo", "", "xo", "xx", "o", "ox"], key=weights.place)
['', 'o', 'oo', 'x', 'xo', 'ox', 'xx']
>>> Weights(("x", 1), ("x", 0))
raises BadSigns(1)
>>> weights("xyo")
raises BadRow(1)
"""

BOOKS = """
>>> from rowgames.books import Book
>>> from rowgames.rules import Rule
>>> pegs = Book(weights, Rule("xxo", "oox"), Rule.read("oxx>xoo"))
>>> [pegs.longest, pegs("xxoxx"), pegs.led("xxoxx", (2, 1)), pegs.led_to("xxo"), pegs.finished("xx")]
[3, [(0, 0), (2, 1)], 'xxxoo', ['oox'], True]
>>> edge = Rule("x", "", right=True)
>>> [str(edge), str(-edge), list(edge.places("xox")), edge("xox", 2), str(Rule("xx", "o") * 2), -pegs == Book(weights, pegs[1], pegs[0])]
['x>]', '[x>', [2], 'xo', 'xxxx>oo', True]
>>> Book(weights, Rule("x", "o"), Rule("o", "oo"))
raises Heavier(1) from Unlessened(0, 0)
>>> pegs.led("xxo", (0, 1))
raises BadMove('place')
"""

ROWS = """
>>> from rowgames.rows import Row
>>> row = Row(pegs, "oxxoo")
>>> [row.play((1, 0)), row.played, row.back(), row.text, row[1:3], row.weight]
['oooxo', ((1, 0),), (1, 0), 'oxxoo', 'xx', 2]
"""

MACHINES = """
>>> from rowgames.machines import Machine
>>> even = Machine("xo", [[1, 0], [0, 1]], [True, False])
>>> [even["xox"], even[""], even.state("xxx"), even.step(1, "xo"), "ox" in even, 7 in even, len(even)]
[True, True, 1, 0, False, False, 2]
>>> even == Machine.modulo("xo", "x", 2)
True
>>> one = Machine.counting("xo", "o", 1)
>>> both = even & one
>>> [both.first(), list(both.rows(3)), both < one, bool(both - even), (even ^ one).first()]
['o', ['xxo', 'xox', 'oxx'], True, False, '']
>>> pair = Machine.having("xo", "xx")
>>> [pair.steps, pair.told, Machine.just("xo", "xx", "xxo") <= pair, len((pair | ~pair).least())]
[((1, 0), (2, 0), (2, 2)), (False, False, True), True, 1]
>>> ends = Machine("xo", ((1, 0), (1, 0)), (False, True))
>>> [ends.turned().steps, ends.turned().told]
[((1, 2), (1, 1), (2, 2)), (False, True, False)]
>>> ends.turned(most=2)
raises TooMany('states', 2)
>>> even["xxy"]
raises BadRow(2)
"""

GAMES = """
>>> from rowgames.games import Every, Shared, Sides, Some
>>> flip = Book(weights, Rule("x", "o"))
>>> game = Shared(flip)
>>> [game.seats, game.judge(0), game.longest, game.reads(False, []), game.reads(False, [True, False]), game.reads(False, [True])]
[1, 0, 1, False, True, False]
>>> lose = Shared(flip, last=False)
>>> [lose.reads(False, []), Every(flip, Machine.none("xo")).reads(True, []), Every(flip, Machine.none("xo")).reads(True, [True, False])]
[True, True, False]
>>> [Sides(flip, flip).judge(0), game == Shared(flip), game == lose]
[1, True, False]
>>> Some(flip, Machine.none("ox"))
raises OtherSigns('goal')
"""

# The ledgers of these examples are not built yet: the parts of the lines that need them are left out.
PLAIN = """
>>> from rowgames.plain import is_won, met
>>> [is_won(game, row) for row in ["", "x", "xx", "xox", "xxx"]]
[False, True, False, False, True]
>>> met(game, "xx")
[('oo', 0), ('xo', 0), ('ox', 0), ('xx', 0)]
>>> is_won(game, "xxxx", most=15)
raises TooMany('rows', 15)
"""

WORD_FOR_WORD = (SIGNS, BOOKS, ROWS, MACHINES, GAMES)


class TestExamples(Case):
    def test_each_after_the_other(self):
        transcript = Transcript(self)
        for text in WORD_FOR_WORD + (PLAIN,):
            transcript.run(text)

    def test_what_stands_behind_the_examples(self):
        transcript = Transcript(self)
        for text in (SIGNS, BOOKS, MACHINES, GAMES, PLAIN):
            transcript.run(text)
        names = transcript.names
        self.same([names["even"][""], names["one"][""]], [True, False])
        self.same(len(names["met"](names["game"], "xxxx")), 16)

    @unittest.skipUnless(os.path.exists(DOC), "the document is not here")
    def test_word_for_word(self):
        with open(DOC, encoding="utf-8") as file:
            document = file.read()
        for text in WORD_FOR_WORD:
            self.assertIn("```\n" + text.strip() + "\n```", document)
