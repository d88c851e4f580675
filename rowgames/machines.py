"""Machines: finite tables that tell rows of all lengths."""

from rowgames.errors import BadMachine, BadNumber, OtherSigns
from rowgames.letters import are_signs, check_row, is_from_to, is_letter, new_letters, wrong_at
from rowgames.making import counter, finder, trie, wheel
from rowgames.states import led_on, mirrored, paired, reached, smallest
from rowgames.telling import first_filling, first_told, hopes_of, told_behind


class Machine:
    """Signs, for each state and sign a next state, and for each state whether it is told."""

    def __init__(self, signs, steps, told):
        check_signs(signs)
        if not are_steps(steps, len(signs)):
            raise BadMachine("steps")
        if not are_answers(told, len(steps)):
            raise BadMachine("told")
        self._signs = signs
        self._steps = tuple([tuple(onward) for onward in steps])
        self._told = tuple(told)

    @property
    def signs(self):
        """The signs, a string."""
        return self._signs

    @property
    def steps(self):
        """For each state a tuple of the next states, by the signs in order."""
        return self._steps

    @property
    def told(self):
        """For each state whether it is told."""
        return self._told

    def __len__(self):
        return len(self._steps)

    def __getitem__(self, at):
        return self._told[self.state(at)]

    def __iter__(self):
        raise TypeError("machines are not iterated over")

    def __contains__(self, x):
        return wrong_at(self._signs, x) is None and self[x]

    def state(self, row):
        """The state behind a row."""
        check_row(self._signs, row)
        return led_on(self._signs, self._steps, 0, row)

    def step(self, state, text):
        """The state behind a text that is read from a state on."""
        if not is_from_to(state, 0, len(self._steps) - 1):
            raise BadMachine("state")
        check_row(self._signs, text)
        return led_on(self._signs, self._steps, state, text)

    def __invert__(self):
        return Machine(self._signs, self._steps, [not answer for answer in self._told])

    def __and__(self, other):
        check_same_signs(self, other)
        pairs, steps = paired(self._steps, other._steps)
        told = [self._told[one] and other._told[two] for one, two in pairs]
        return least_machine(self._signs, steps, told)

    def __or__(self, other):
        check_same_signs(self, other)
        pairs, steps = paired(self._steps, other._steps)
        told = [self._told[one] or other._told[two] for one, two in pairs]
        return least_machine(self._signs, steps, told)

    def __xor__(self, other):
        check_same_signs(self, other)
        pairs, steps = paired(self._steps, other._steps)
        told = [self._told[one] != other._told[two] for one, two in pairs]
        return least_machine(self._signs, steps, told)

    def __sub__(self, other):
        check_same_signs(self, other)
        pairs, steps = paired(self._steps, other._steps)
        told = [self._told[one] and not other._told[two] for one, two in pairs]
        return least_machine(self._signs, steps, told)

    def __iand__(self, other):
        return self & other

    def __ior__(self, other):
        return self | other

    def __ixor__(self, other):
        return self ^ other

    def __isub__(self, other):
        return self - other

    def __le__(self, other):
        check_same_signs(self, other)
        pairs, _ = paired(self._steps, other._steps)
        return all([other._told[two] or not self._told[one] for one, two in pairs])

    def __lt__(self, other):
        return self <= other and not other <= self

    def __ge__(self, other):
        return other <= self

    def __gt__(self, other):
        return other < self

    def __eq__(self, other):
        if not isinstance(other, Machine) or self._signs != other._signs:
            return False
        pairs, _ = paired(self._steps, other._steps)
        return all([self._told[one] == other._told[two] for one, two in pairs])

    def __bool__(self):
        return any([self._told[state] for state in reached(self._steps)])

    def least(self):
        """The machine with the fewest states that tells the same rows."""
        return least_machine(self._signs, self._steps, self._told)

    def first(self):
        """The first told row, by length and then by the signs; None if there is none."""
        return first_told(self._signs, self._steps, self._told)

    def rows(self, length):
        """The told rows of a length, by the signs in order, each made when it is asked for."""
        if not is_from_to(length, 0, 1000):
            raise BadNumber("length")
        hopes = hopes_of(self._steps, self._told, length)
        row = None
        if hopes[length][0]:
            row = first_filling(self._signs, self._steps, hopes, 0, length)
        while row is not None:
            yield row
            row = told_behind(self._signs, self._steps, hopes, row)

    def turned(self, *, most=64):
        """The least machine that tells the rows whose mirror images this one tells."""
        steps, told = smallest(self._steps, self._told)
        steps, told = mirrored(steps, told, most)
        return Machine(self._signs, steps, told)

    def renamed(self, names):
        """The machine with the letters that a dict gives the signs."""
        return Machine(new_letters(self._signs, names), self._steps, self._told)

    @classmethod
    def every(cls, signs):
        """The machine that tells every row."""
        check_signs(signs)
        return cls(signs, [[0] * len(signs)], [True])

    @classmethod
    def none(cls, signs):
        """The machine that tells no row."""
        check_signs(signs)
        return cls(signs, [[0] * len(signs)], [False])

    @classmethod
    def just(cls, signs, *rows):
        """The machine that tells just these rows."""
        check_signs(signs)
        for row in rows:
            check_row(signs, row)
        steps, told = trie(signs, rows)
        steps, told = smallest(steps, told)
        return cls(signs, steps, told)

    @classmethod
    def having(cls, signs, text):
        """The machine that tells the rows in which a text stands somewhere."""
        check_signs(signs)
        check_row(signs, text)
        steps, told = finder(signs, text)
        return cls(signs, steps, told)

    @classmethod
    def counting(cls, signs, sign, many):
        """The machine that tells the rows with just so many of a sign."""
        check_signs(signs)
        check_sign(signs, sign)
        if not is_from_to(many, 0, 60):
            raise BadNumber("many")
        steps, told = counter(signs, sign, many)
        return cls(signs, steps, told)

    @classmethod
    def modulo(cls, signs, sign, modulus, rest=0):
        """The machine that tells the rows in which the number of a sign leaves a rest."""
        check_signs(signs)
        check_sign(signs, sign)
        if not is_from_to(modulus, 1, 60):
            raise BadNumber("modulus")
        if not is_from_to(rest, 0, modulus - 1):
            raise BadNumber("rest")
        steps, told = wheel(signs, sign, modulus, rest)
        return cls(signs, steps, told)


def check_signs(value):
    """Raise BadMachine for any value that is no string of signs."""
    if not are_signs(value):
        raise BadMachine("signs")


def check_sign(signs, value):
    """Raise BadMachine for any value that is none of the signs."""
    if not is_letter(value) or value not in signs:
        raise BadMachine("sign")


def check_same_signs(one, other):
    """Raise OtherSigns for machines with unlike signs."""
    if one.signs != other.signs:
        raise OtherSigns("signs")


def are_steps(value, many):
    """Whether any value has for each of its states so many next ones."""
    if not isinstance(value, (list, tuple)) or len(value) == 0:
        return False
    last = len(value) - 1
    return all([are_states(onward, many, last) for onward in value])


def are_states(value, many, last):
    """Whether any value is a list or tuple of so many states from 0 to last."""
    if not isinstance(value, (list, tuple)) or len(value) != many:
        return False
    return all([is_from_to(state, 0, last) for state in value])


def are_answers(value, many):
    """Whether any value is a list or tuple of so many bools."""
    if not isinstance(value, (list, tuple)) or len(value) != many:
        return False
    return all([isinstance(answer, bool) for answer in value])


def least_machine(signs, steps, told):
    """The least machine for steps and told."""
    steps, told = smallest(steps, told)
    return Machine(signs, steps, told)
