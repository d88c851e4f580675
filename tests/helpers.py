"""What the tests share: strict comparing, odd values, and transcripts of examples."""

import ast
import inspect
import os
import unittest

import rowgames.errors
from rowgames.books import Book
from rowgames.compare import alike, fewest
from rowgames.desk import Desk
from rowgames.games import Every, Shared, Sides, Some
from rowgames.kept import kept, look_among
from rowgames.least import least
from rowgames.lengths import Lengths
from rowgames.machines import Machine
from rowgames.players import Leftmost, Numbered, Perfect
from rowgames.rows import Row
from rowgames.rules import Rule
from rowgames.signs import Weights
from rowgames.tables import look

ROOT = os.path.dirname(os.path.dirname(os.path.abspath(__file__)))
PACKAGE = os.path.join(ROOT, "rowgames")
DOC = os.path.join(os.path.dirname(ROOT), "shared", "DOC.md")

XO = Weights(("x", 1), ("o", 0))
FLIP = Book(XO, Rule("x", "o"))
ODD = Machine("xo", ((1, 0), (0, 1)), (False, True))
SHARED = Shared(FLIP)
EVERY = Machine.every("xo")


def nested(depth):
    """A list in lists, so deep."""
    value = "x"
    for _ in range(depth - 1):
        value = [value]
    return [value]


def package_objects():
    """An object of each kind that the package has."""
    games = [SHARED, Sides(FLIP, FLIP), Some(FLIP, ODD), Every(FLIP, ODD)]
    looks = [look(SHARED, ODD), look(SHARED, ~ODD), look_among(SHARED, EVERY, ODD), kept(FLIP, ~ODD)]
    found = [least(SHARED, 1), least(SHARED, 2), alike(SHARED, [ODD], SHARED), fewest(SHARED, [ODD])]
    others = [Leftmost(SHARED), Numbered(SHARED, 1), Perfect(SHARED, ODD), Lengths(0, 2, [True, False]), Desk()]
    return [XO, FLIP[0], FLIP, Row(FLIP, "x"), ODD] + games + looks + found + others


def odd_values():
    """Values of all kinds that a caller may pass as any value."""
    plain = [None, True, False, 0, 1, 2, -1, 10 ** 59, -(10 ** 59), "", "x", "xo", "q", "X", "1", " ", "x\n", "\n",
             "~" * 12000, (), [], {}, ("x",), ["x"], ["x", "o"], ("x", 1), ["x", 1], (0, 0), [0, 0], {"x": "o"},
             {0: 0}, {None: []}, nested(12), ({}, [()]), tuple(range(4999))]
    return plain + package_objects()


def values_but(*kept):
    """The odd values without those that are the same as one of these, also in kind."""
    return [value for value in odd_values() if not any(same(value, other) for other in kept)]


def same(one, other):
    """Whether two values are equal in value and in kind, also inside."""
    if type(one) is not type(other):
        return False
    if isinstance(one, (list, tuple)):
        return len(one) == len(other) and all(same(a, b) for a, b in zip(one, other))
    if isinstance(one, dict):
        return one.keys() == other.keys() and all(same(one[key], other[key]) for key in one)
    return one == other


class Case(unittest.TestCase):
    """A test case with strict comparing."""

    maxDiff = None

    def same(self, one, other):
        """The two values are equal in value and in kind."""
        self.assertTrue(same(one, other), f"{one!r} is not just {other!r}")

    def error(self, call, *args, **named):
        """The error of the package that a call raises."""
        with self.assertRaises(rowgames.errors.GameError) as caught:
            call(*args, **named)
        return caught.exception

    def raises(self, expected, call, *args, **named):
        """A call raises an error of just this class and with just these fields."""
        found = self.error(call, *args, **named)
        self.assertIs(type(found), type(expected))
        self.same(vars(found), vars(expected))
        return found


def defaults_of(call):
    """The default values of the parameters of a function or a method, by name."""
    told = inspect.signature(call).parameters.values()
    return {one.name: one.default for one in told if one.default is not inspect.Parameter.empty}


def blocks_of(text):
    """The pairs (code, lines that are expected) of a transcript."""
    blocks = []
    for line in text.strip().split("\n"):
        if line.startswith(">>> "):
            blocks.append([line[4:], []])
        elif line.startswith("... ") or line == "...":
            blocks[-1][0] += "\n" + line[4:]
        else:
            blocks[-1][1].append(line)
    return [(code, "\n".join(expected)) for code, expected in blocks]


class Transcript:
    """Runs examples of the document, which use what earlier ones imported and bound."""

    def __init__(self, case):
        self.case = case
        self.names = {}

    def run(self, text):
        """Runs a transcript and compares each answer with what is expected."""
        for code, expected in blocks_of(text):
            if expected.startswith("raises "):
                self.run_error(code, expected[len("raises "):])
            elif expected == "":
                exec(code, self.names)
            else:
                self.case.assertEqual(repr(eval(code, self.names)), expected, code)

    def run_error(self, code, expected):
        """Runs code that is to raise an error, perhaps from another one."""
        wanted, _, cause = expected.partition(" from ")
        with self.case.assertRaises(ValueError) as caught:
            exec(code, self.names)
        self.compare(caught.exception, wanted)
        if cause:
            self.compare(caught.exception.__cause__, cause)

    def compare(self, error, wanted):
        """The error is of the class and has the fields that the text tells."""
        name = ast.parse(wanted, mode="eval").body.func.id
        expected = eval(wanted, {name: getattr(rowgames.errors, name)})
        self.case.assertIs(type(error), type(expected), wanted)
        self.case.same(vars(error), vars(expected))
