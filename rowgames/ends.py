"""Ends: how rows end, as far as the rules of a game look at it."""


class Ends:
    """The ends of the rows of a game by numbers, and what rules make of them.

    An end is a tuple (fresh, tail), as in a stand. It is looked at when it is first met.
    """

    def __init__(self, game):
        self.letters = game.weights.signs
        self.books = game.books
        self.tail_length = game.longest
        self.numbers = {}
        # By numbers: the ends, the tails by the indexes of their signs, the ends behind by each
        # sign, and for each seat the ends, by indexes, that fitting rules put in the place of
        # the tail: those of the rules that are not of the right end, and of those that are.
        self.met = []
        self.tails = []
        self.onward = []
        self.loose = []
        self.bound = []

    def number_of(self, fresh, tail):
        """The number of an end."""
        if (fresh, tail) not in self.numbers:
            self.numbers[(fresh, tail)] = len(self.met)
            self.met.append((fresh, tail))
            self.tails.append(self.spelled(tail))
            self.onward.append(None)
            self.loose.append([self.put_by(book.rules, False, fresh, tail) for book in self.books])
            self.bound.append([self.put_by(book.rules, True, fresh, tail) for book in self.books])
        return self.numbers[(fresh, tail)]

    def spelled(self, text):
        """The indexes of the signs of a text."""
        return [self.letters.index(sign) for sign in text]

    def put_by(self, rules, right, fresh, tail):
        """What rules of the right end, or the others, put in the place of a tail, by indexes."""
        return [self.spelled(text) for text in texts_put(rules, right, fresh, tail)]

    def behind(self, number):
        """The numbers of the ends behind an end by each sign."""
        if self.onward[number] is None:
            fresh, tail = self.met[number]
            found = []
            for sign in self.letters:
                text = tail + sign
                cut = max(0, len(text) - self.tail_length)
                found.append(self.number_of(fresh and cut == 0, text[cut:]))
            self.onward[number] = found
        return self.onward[number]


def texts_put(rules, right, fresh, tail):
    """What rules of the right end, or the others, put in the place of a tail at which old stretches end."""
    found = []
    for rule in rules:
        if rule.right == right and tail.endswith(rule.old) and (not rule.left or (fresh and tail == rule.old)):
            found.append(tail[:len(tail) - len(rule.old)] + rule.new)
    return found
