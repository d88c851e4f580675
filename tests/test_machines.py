"""Machines: what they keep and tell, how they are joined, compared, shrunk, listed and turned."""

import itertools
import operator
import random

from rowgames.errors import BadMachine, BadNumber, BadRow, BadSigns, OtherSigns, TooMany
from rowgames.machines import Machine
from helpers import ODD, Case, odd_values, values_but


def words(signs, most):
    """All rows up to a length, by length and then by the signs."""
    return ["".join(row) for length in range(most + 1) for row in itertools.product(signs, repeat=length)]


def told_by(machine, row):
    """Whether a machine tells a row, read by its steps alone."""
    state = 0
    for sign in row:
        state = machine.steps[state][machine.signs.index(sign)]
    return machine.told[state]


def random_machine(source, many, signs="xo"):
    steps = [[source.randrange(many) for _ in signs] for _ in range(many)]
    return Machine(signs, steps, [source.random() < 0.4 for _ in range(many)])


def shuffled(source, machine):
    """The same rows, with states twice over, in another order, and with states that are never met."""
    many = len(machine)
    places = list(range(3 * many))
    source.shuffle(places)
    places.insert(0, places.pop(places.index(next(p for p in places if p % many == 0))))
    steps = []
    for place in places:
        row = []
        for led in machine.steps[place % many]:
            row.append(places.index(led + many * source.randrange(3)))
        steps.append(row)
    return Machine(machine.signs, steps, [machine.told[place % many] for place in places])


def slow_least(machine):
    """The least machine, by words that are parted and by the rows that lead to states first."""
    endings = words(machine.signs, len(machine))
    names, beginnings = {}, []
    for row in words(machine.signs, len(machine)):
        kind = tuple(told_by(machine, row + ending) for ending in endings)
        if kind not in names:
            names[kind] = len(beginnings)
            beginnings.append(row)
    steps = tuple(tuple(names[tuple(told_by(machine, row + sign + ending) for ending in endings)]
                        for sign in machine.signs) for row in beginnings)
    return steps, tuple(told_by(machine, row) for row in beginnings)


class TestMaking(Case):
    def test_properties(self):
        machine = Machine("xo", [[1, 0], (0, 1)], [True, False])
        self.same([machine.signs, machine.steps, machine.told, len(machine)],
                  ["xo", ((1, 0), (0, 1)), (True, False), 2])
        machine = Machine(told=(False,), steps=([0, 0, 0, 0],), signs="dcba")
        self.same([machine.signs, machine.steps, machine.told, len(machine)],
                  ["dcba", ((0, 0, 0, 0),), (False,), 1])
        for name in ("signs", "steps", "told"):
            self.assertIsInstance(vars(Machine)[name], property)

    def test_lists_that_are_changed_afterwards(self):
        inner = [1, 0]
        steps, told = [inner, [0, 1]], [True, False]
        machine = Machine("xo", steps, told)
        inner[0] = 0
        steps.append([0, 0])
        told[0] = False
        self.same([machine.steps, machine.told, machine["xx"]], [((1, 0), (0, 1)), (True, False), True])

    def test_wrong_signs(self):
        wrong = ["", "xx", "xox", "abcde", "X", "x1", "x o", "x\n", "-"]
        for value in wrong + [value for value in odd_values() if value not in ("x", "xo", "q")]:
            self.raises(BadMachine("signs"), Machine, value, [[0]], [True])
            self.raises(BadMachine("signs"), Machine, value, None, None)

    def test_wrong_steps(self):
        wrong = [[], (), [[0, 0], [0, 1], None], [[0]], [[0, 0, 0]], [[0, 1]], [[0, -1]], [[2, 0], [0, 0]],
                 [[0, 0], [0, 2]], [[False, 0]], [[0, True], [0, 0]], [["0", 0]], [[None, 0]], [{0: 0, 1: 0}],
                 {0: [0, 0]}, "xo", [[0, 0], [0]], [[0, [0]]], [[10 ** 59, 0]], ["00"], [[0, 0], (0, 0, 0)]]
        for value in wrong + odd_values():
            self.raises(BadMachine("steps"), Machine, "xo", value, [True])
            self.raises(BadMachine("steps"), Machine, "xo", value, None)

    def test_wrong_told(self):
        steps = [[0, 1], [1, 0]]
        wrong = [[], [True], [True, False, True], [True, 0], [1, False], [True, None], (True, "x"), {0: True, 1: True},
                 "xo", [[True], [False]]]
        for value in wrong + odd_values():
            self.raises(BadMachine("told"), Machine, "xo", steps, value)


class TestReading(Case):
    def test_against_the_steps(self):
        source = random.Random(1)
        for signs in ("x", "xo", "bca"):
            machine = random_machine(source, 5, signs)
            for row in words(signs, 5):
                self.same([machine[row], row in machine], [told_by(machine, row)] * 2)
                self.same(machine.told[machine.state(row)], machine[row])
                for state in range(5):
                    led = state
                    for sign in row:
                        led = machine.steps[led][signs.index(sign)]
                    self.same(machine.step(state, row), led)
                self.same(machine.state(row), machine.step(0, row))
        self.same([ODD.state(row="xo"), ODD.step(text="x", state=1)], [1, 0])

    def test_what_is_no_row(self):
        for ask in (lambda row: ODD[row], ODD.state, lambda row: ODD.step(1, row)):
            for value in odd_values():
                if not isinstance(value, str):
                    self.raises(BadRow(0), ask, value)
            self.raises(BadRow(2), ask, "xxy")
            self.raises(BadRow(0), ask, "qx")
            self.raises(BadRow(1), ask, "o\nx")

    def test_what_is_no_state(self):
        for value in values_but(0, 1) + [2, -2, "0", (0,)]:
            for text in ("x", None, "q"):
                self.raises(BadMachine("state"), ODD.step, value, text)
        self.raises(BadMachine("state"), Machine("xo", [[0, 0]], [True]).step, 1, "")

    def test_in(self):
        for value in odd_values():
            self.same(value in ODD, value == "x" or value == "xo")
        self.same(["xox" in ODD, "xq" in ODD, "" in ~ODD, None in ~ODD, "q" in ~ODD],
                  [False, False, True, False, False])


class TestJoining(Case):
    def setUp(self):
        source = random.Random(2)
        self.machines = [random_machine(source, many) for many in (1, 2, 3, 4, 5, 6)]
        self.rows = words("xo", 7)

    def told(self, machine):
        return [row for row in self.rows if told_by(machine, row)]

    def test_signs_between_machines(self):
        ways = [(operator.and_, lambda a, b: a and b), (operator.or_, lambda a, b: a or b),
                (operator.xor, lambda a, b: a != b), (operator.sub, lambda a, b: a and not b)]
        in_place = [operator.iand, operator.ior, operator.ixor, operator.isub]
        for one in self.machines:
            self.assertEqual(self.told(~one), [row for row in self.rows if not told_by(one, row)])
            for other in self.machines:
                for (join, rule), put in zip(ways, in_place):
                    expected = [row for row in self.rows if rule(told_by(one, row), told_by(other, row))]
                    self.assertEqual(self.told(join(one, other)), expected)
                    self.assertEqual(self.told(put(one, other)), expected)
                    self.assertEqual(join(one, other).signs, "xo")

    def test_in_place_binds_the_name_alone(self):
        for put in (operator.iand, operator.ior, operator.ixor, operator.isub):
            one = Machine.having("xo", "xx")
            same, steps, told = one, one.steps, one.told
            one = put(one, ODD)
            self.assertIsNot(one, same)
            self.same([same.steps, same.told], [steps, told])
        one = ODD
        one &= Machine.just("xo", "x", "xx")
        self.assertEqual(one, Machine.just("xo", "x"))
        one |= Machine.just("xo", "o")
        self.assertEqual(one, Machine.just("xo", "x", "o"))
        one ^= Machine.just("xo", "", "o")
        self.assertEqual(one, Machine.just("xo", "", "x"))
        one -= Machine.just("xo", "", "oo")
        self.assertEqual(one, Machine.just("xo", "x"))
        self.same(ODD.steps, ((1, 0), (0, 1)))

    def test_other_signs(self):
        others = [Machine.every("ox"), Machine.every("x"), Machine.every("xoa"), Machine.none("xp")]
        ways = [operator.and_, operator.or_, operator.xor, operator.sub, operator.iand, operator.ior, operator.ixor,
                operator.isub, operator.le, operator.lt, operator.ge, operator.gt]
        for other in others:
            for way in ways:
                self.raises(OtherSigns("signs"), way, ODD, other)
                self.raises(OtherSigns("signs"), way, other, ODD)

    def test_results_stay_small(self):
        found = Machine.none("xo")
        for modulus in range(2, 60):
            found = (found | Machine.modulo("xo", "x", modulus)) & Machine.just("xo", "", "x", "xx")
        self.assertEqual(found, Machine.just("xo", "", "xx"))

    def test_great_ones(self):
        found = Machine.modulo("xo", "x", 59) & Machine.modulo("xo", "o", 53)
        self.same([found["x" * 59 + "o" * 106], found["x" * 118 + "o" * 52], found.first()], [True, False, ""])


class TestComparing(Case):
    def test_against_the_rows_that_are_told(self):
        source = random.Random(4)
        machines = [random_machine(source, many) for many in (1, 1, 2, 2, 3, 3)]
        machines = machines + [one & other for one in machines for other in machines]
        machines = machines[:20] + [shuffled(source, machine) for machine in machines[:6]]
        rows = words("xo", 8)
        told = [{row for row in rows if told_by(machine, row)} for machine in machines]
        for one, some in zip(machines, told):
            self.same(bool(one), some != set())
            for other, others in zip(machines, told):
                self.same(one == other, some == others)
                self.same(one != other, some != others)
                self.same(one <= other, some <= others)
                self.same(one < other, some < others)
                self.same(one >= other, some >= others)
                self.same(one > other, some > others)

    def test_equal_to_any_value(self):
        for value in odd_values():
            self.same(ODD == value, value is ODD)
        self.same([ODD == Machine.none("xo"), Machine.none("xo") == Machine.none("ox")], [False, False])
        self.same(Machine.every("x") == Machine.every("xo"), False)
        self.same(Machine.every("xo") == Machine("xo", [[1, 0], [0, 1]], [True, True]), True)

    def test_truth(self):
        self.same([bool(Machine.none("xo")), bool(Machine.every("xo")), bool(Machine.just("xo"))],
                  [False, True, False])
        never_met = Machine("xo", [[0, 0], [0, 1]], [False, True])
        self.same([bool(never_met), never_met == Machine.none("xo"), never_met <= Machine.none("xo")],
                  [False, True, True])


class TestLeast(Case):
    def same_table(self, machine, steps, told):
        self.same([machine.steps, machine.told], [steps, told])

    def test_against_parted_beginnings(self):
        source = random.Random(6)
        for signs, many in (("xo", 1), ("xo", 2), ("xo", 3), ("xo", 4), ("ox", 5), ("abc", 3)):
            for _ in range(6):
                machine = random_machine(source, many, signs)
                steps, told = slow_least(machine)
                for one in (machine, shuffled(source, machine)):
                    self.same_table(one.least(), steps, told)
                    self.same(one.least().signs, signs)

    def test_numbering(self):
        machine = Machine("xo", [[3, 2], [1, 1], [0, 1], [2, 3]], [False, True, False, False])
        self.same_table(machine.least(), ((1, 2), (2, 1), (0, 3), (3, 3)), (False, False, False, True))
        machine = Machine("ox", [[3, 2], [1, 1], [0, 1], [2, 3]], [False, True, False, False])
        self.same_table(machine.least(), ((1, 2), (2, 1), (0, 3), (3, 3)), (False, False, False, True))

    def test_states_that_are_never_met(self):
        machine = Machine("x", [[0], [2], [1]], [True, False, True])
        self.same_table(machine.least(), ((0,),), (True,))

    def test_results_of_great_ones(self):
        wheel = Machine.modulo("xo", "x", 60) | Machine.modulo("xo", "x", 60, 30)
        self.assertEqual(wheel.least().steps, Machine.modulo("xo", "x", 30).steps)


class TestListing(Case):
    def test_first_and_rows(self):
        source = random.Random(7)
        for signs, many in (("xo", 3), ("ox", 5), ("x", 4), ("abc", 3), ("xo", 9)):
            for _ in range(8):
                machine = random_machine(source, many, signs)
                told = [row for row in words(signs, 6 if len(signs) < 3 else 4) if told_by(machine, row)]
                if told:
                    self.same(machine.first(), told[0])
                for length in range(5):
                    self.same(list(machine.rows(length)), [row for row in told if len(row) == length])

    def test_first(self):
        self.same([Machine.none("xo").first(), Machine.every("xo").first(), (~Machine.every("xo")).first()],
                  [None, "", None])
        self.same(Machine("xo", [[0, 0], [1, 1]], [False, True]).first(), None)
        self.same(Machine.just("xo", "oo", "xox", "ox").first(), "ox")
        self.same(Machine.just("ox", "xo", "ox").first(), "ox")
        self.same(Machine.counting("xo", "o", 60).first(), "o" * 60)

    def test_wrong_lengths(self):
        for value in [-1, 1001, 10 ** 59, None, True, False, "1", "", [1], (2,)]:
            self.raises(BadNumber("length"), lambda: next(ODD.rows(value)))
            self.raises(BadNumber("length"), lambda: list(Machine.none("xo").rows(value)))
        self.same(list(Machine.none("xo").rows(1000)), [])
        self.same(list(ODD.rows(length=1)), ["x"])

    def test_the_first_rows_of_a_great_length(self):
        rows = ODD.rows(1000)
        self.assertEqual([next(rows) for _ in range(4)],
                         ["x" * 997 + end for end in ("xxo", "xox", "oxx", "ooo")])
        rows = Machine.counting("xo", "x", 2).rows(1000)
        self.assertEqual([next(rows), next(rows)], ["xx" + "o" * 998, "xox" + "o" * 997])
        self.same(list(Machine.counting("xo", "x", 0).rows(1000)), ["o" * 1000])

    def test_two_by_turns(self):
        one, other = ODD.rows(3), ODD.rows(3)
        found = [next(one), next(other), next(one), next(one), next(other), next(one), next(other)]
        self.assertEqual(found, ["xxx", "xxx", "xoo", "oxo", "xoo", "oox", "oxo"])
        self.assertEqual([list(one), list(other)], [[], ["oox"]])


class TestTurned(Case):
    def test_mirror_images(self):
        source = random.Random(8)
        for signs, many in (("xo", 2), ("xo", 4), ("ox", 5), ("abc", 3)):
            for _ in range(6):
                machine = random_machine(source, many, signs)
                turned = machine.turned(most=20000)
                for row in words(signs, 6 if len(signs) < 3 else 4):
                    self.same(told_by(turned, row), told_by(machine, row[::-1]))
                self.same([turned.steps, turned.told], [turned.least().steps, turned.least().told])
                self.assertEqual(turned.turned(most=20000), machine)
                self.same(shuffled(source, machine).turned(most=20000).steps, turned.steps)
                self.same(turned.signs, signs)

    def test_most_just_met_and_just_too_small(self):
        ends = Machine("xo", ((1, 0), (1, 0)), (False, True))
        self.same([ends.turned(most=3).steps, ends.turned(most=3).told],
                  [((1, 2), (1, 1), (2, 2)), (False, True, False)])
        self.raises(TooMany("states", 2), ends.turned, most=2)
        self.raises(TooMany("states", 1), ends.turned, most=1)
        self.same(len(Machine.every("xo").turned(most=1)), 1)

    def test_the_bound_that_is_not_told(self):
        for ahead, fits in ((5, True), (6, False)):
            # Told if the sign behind so many is an x: read from the other end, all the last ones are kept.
            machine = Machine("xo", [[k + 1, k + 1] for k in range(ahead)] + [[ahead + 1, ahead + 2]]
                              + [[ahead + 1, ahead + 1], [ahead + 2, ahead + 2]], [False] * (ahead + 1) + [True, False])
            if fits:
                self.same(len(machine.turned()), 64)
                self.raises(TooMany("states", 63), machine.turned, most=63)
            else:
                self.raises(TooMany("states", 64), machine.turned)
                self.same(len(machine.turned(most=128)), 128)

    def test_most_is_told_by_name(self):
        with self.assertRaises(TypeError):
            ODD.turned(64)


class TestRenamed(Case):
    def test_renamed(self):
        machine = Machine("xo", [[1, 0], [1, 1]], [False, True]).renamed({"o": "x", "x": "b"})
        self.same([machine.signs, machine.steps, machine.told], ["bx", ((1, 0), (1, 1)), (False, True)])
        self.same([machine["xxb"], machine["xx"]], [True, False])
        double = Machine("xo", [[1, 1], [0, 0]], [True, True]).renamed(names={"x": "x", "o": "y"})
        self.same([double.signs, double.steps, double.told], ["xy", ((1, 1), (0, 0)), (True, True)])

    def test_wrong_names(self):
        for names in odd_values() + [{"x": "a"}, {"x": "a", "o": "a"}, {"x": "a", "o": "b", "c": "d"},
                                     {"x": "a", "o": "B"}, {"x": "a", "o": "bb"}, {"x": "a", "y": "b"}]:
            self.raises(BadSigns("names"), ODD.renamed, names)


class TestClassMethods(Case):
    def check(self, machine, rule, signs="xo", most=6):
        """The machine tells the rows that the rule tells, and is its own least one."""
        self.assertIs(type(machine), Machine)
        self.same(machine.signs, signs)
        for row in words(signs, most):
            self.same(told_by(machine, row), rule(row))
        least = machine.least()
        self.same([machine.steps, machine.told], [least.steps, least.told])

    def test_every_and_none(self):
        for signs in ("x", "xo", "dcba"):
            self.check(Machine.every(signs), lambda row: True, signs, 3)
            self.check(Machine.none(signs=signs), lambda row: False, signs, 3)

    def test_just(self):
        for rows in ([], [""], ["x"], ["x", "x"], ["xo", "", "ooo"], ["xx", "xo", "ox", "oo"], ["xoxox", "xo", "oxo"]):
            self.check(Machine.just("xo", *rows), lambda row: row in rows)
        self.check(Machine.just("abc", "abc", "cb"), lambda row: row in ("abc", "cb"), "abc", 4)
        long = "xo" * 500
        machine = Machine.just("xo", long, long[:-1])
        self.same([machine[long], machine[long[:-1]], machine[long[1:]], len(machine)], [True, True, False, 1002])

    def test_having(self):
        for text in words("xo", 4) + ["xxoxx", "xoxoxx", "oooooo"]:
            self.check(Machine.having("xo", text), lambda row: text in row, most=7)
        self.check(Machine.having("abc", "aba"), lambda row: "aba" in row, "abc", 5)
        self.same(len(Machine.having(text="xo" * 500, signs="xo")), 1001)

    def test_counting(self):
        for many in range(5):
            for sign in "xo":
                self.check(Machine.counting("xo", sign, many), lambda row: row.count(sign) == many)
        self.same(len(Machine.counting(signs="xo", sign="o", many=60)), 62)

    def test_modulo(self):
        for modulus in range(1, 5):
            for rest in range(modulus):
                for sign in "xo":
                    self.check(Machine.modulo("xo", sign, modulus, rest), lambda row: row.count(sign) % modulus == rest)
        self.check(Machine.modulo("xo", "x", 3), lambda row: row.count("x") % 3 == 0)
        self.same(len(Machine.modulo(signs="xo", sign="o", modulus=60, rest=59)), 60)

    def test_wrong_signs_come_first(self):
        for value in ["", "xx", "abcde", "X", "x1"] + [one for one in odd_values() if one not in ("x", "xo", "q")]:
            for make in (lambda signs: Machine.every(signs), lambda signs: Machine.none(signs),
                         lambda signs: Machine.just(signs), lambda signs: Machine.just(signs, None),
                         lambda signs: Machine.having(signs, None), lambda signs: Machine.counting(signs, None, None),
                         lambda signs: Machine.modulo(signs, None, None, None)):
                self.raises(BadMachine("signs"), make, value)

    def test_wrong_rows(self):
        for value in odd_values():
            if not isinstance(value, str):
                self.raises(BadRow(0), Machine.just, "xo", value)
                self.raises(BadRow(0), Machine.just, "xo", "xo", value, "q")
                self.raises(BadRow(0), Machine.having, "xo", value)
        self.raises(BadRow(2), Machine.just, "xo", "x", "xoq", None)
        self.raises(BadRow(2), Machine.having, "xo", "xoq")
        self.raises(BadRow(1), Machine.having, "xo", "x\n")

    def test_wrong_sign(self):
        for value in values_but("x") + ["xo", "", "p"]:
            self.raises(BadMachine("sign"), Machine.counting, "xo", value, None)
            self.raises(BadMachine("sign"), Machine.counting, "xo", value, 1)
            self.raises(BadMachine("sign"), Machine.modulo, "xo", value, None, None)
            self.raises(BadMachine("sign"), Machine.modulo, "xo", value, 2)

    def test_wrong_numbers(self):
        for value in values_but(0, 1, 2) + [-1, 61, "1"]:
            self.raises(BadNumber("many"), Machine.counting, "xo", "x", value)
            self.raises(BadNumber("modulus"), Machine.modulo, "xo", "x", value)
            self.raises(BadNumber("modulus"), Machine.modulo, "xo", "x", value, None)
            self.raises(BadNumber("rest"), Machine.modulo, "xo", "x", 3, value)
        self.raises(BadNumber("modulus"), Machine.modulo, "xo", "x", 0, 0)
        self.raises(BadNumber("rest"), Machine.modulo, "xo", "x", 3, 3)
        self.raises(BadNumber("rest"), Machine.modulo, "xo", "x", 1, 1)
        self.same(Machine.counting("xo", "x", 0).first(), "")
        self.same(Machine.modulo("xo", "x", 1).first(), "")
