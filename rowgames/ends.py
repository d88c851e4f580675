"""Ends: how rows end, as far as the rules of a game look at it."""


class Ends:
    """The ends of the rows of a game by numbers, and what rules make of them.

    An end is a tuple (fresh, tail), as in a stand. It is looked at when it is first met.
    """

    def __init__(self, game):
        self.letters = game.weights.signs
        self.rules = [(seat, rule) for seat, book in enumerate(game.books) for rule in book.rules]
        self.tail_length = game.longest
        self.numbers = {}
        # By numbers: the ends, their tails by the indexes of the signs, the ends behind by each
        # sign, and what fitting rules put in the place of the tail, as pairs of their seat and the
        # indexes of the signs: the rules that are not of the right end, and those that are.
        self.met = []
        self.tails = []
        self.onward = []
        self.loose = []
        self.bound = []
        self.meet((True, ""))

    def meet(self, end):
        """Gives a new end a number, and looks at it."""
        fresh, tail = end
        self.numbers[end] = len(self.met)
        self.met.append(end)
        self.tails.append(self.spelled(tail))
        self.onward.append(None)
        fitting = [(seat, rule) for seat, rule in self.rules if tail.endswith(rule.old) and ends_row(rule, fresh, tail)]
        self.loose.append([(seat, self.spelled(text_put(rule, tail))) for seat, rule in fitting if not rule.right])
        self.bound.append([(seat, self.spelled(text_put(rule, tail))) for seat, rule in fitting if rule.right])

    def spelled(self, text):
        """The indexes of the signs of a text."""
        return [self.letters.index(sign) for sign in text]

    def behind(self, number):
        """The numbers of the ends behind an end by each sign, which were not asked for before."""
        fresh, tail = self.met[number]
        rest = tail
        if len(tail) >= self.tail_length:
            rest = tail[1:]
            fresh = False
        found = []
        for sign in self.letters:
            # Without any rule no sign is kept.
            end = (fresh, rest + sign if self.tail_length > 0 else "")
            if end not in self.numbers:
                self.meet(end)
            found.append(self.numbers[end])
        self.onward[number] = found
        return found


def ends_row(rule, fresh, tail):
    """Whether a rule whose old stretch ends a tail is not bound to the left end, or fits there, too."""
    return not rule.left or (fresh and tail == rule.old)


def text_put(rule, tail):
    """What a rule whose old stretch ends a tail puts in the place of the tail."""
    return tail[:len(tail) - len(rule.old)] + rule.new
