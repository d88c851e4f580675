"""Leading: the rows to which moves lead, found as fast as plain play needs them."""

from rowgames.letters import weigh


class Leads:
    """The rows behind the moves by some rules, in no promised order.

    Plays lead to many rows that share a half. So what moves make of a half is found once and
    kept: of the first half with as many signs behind it as an old stretch may go on there, and of
    the second half. Only rules that are bound to an end are tried row by row.
    """

    def __init__(self, pairs, rules):
        self.pairs = pairs
        self.loose = [(rule.old, rule.new) for rule in rules if not rule.left and not rule.right]
        tied = [rule for rule in rules if rule.left or rule.right]
        self.is_tied = len(tied) > 0
        self.lefts = [(rule.old, rule.new) for rule in tied if not rule.right]
        self.rights = [(rule.old, rule.new) for rule in tied if not rule.left]
        self.wholes = [(rule.old, rule.new) for rule in tied if rule.left and rule.right]
        # How far a stretch that begins in the first half may reach over its end.
        self.reach = max([len(old) for old, _ in self.loose], default=1) - 1
        self.heads = {}
        self.tails = {}

    def head(self, text, middle):
        """The weight ahead of the middle, and what comes of a text by moves at places ahead of it."""
        # The length of the text tells where its middle is: so it need not be kept with it.
        found = (weigh(self.pairs, text[:middle]), changed(self.loose, text, middle))
        self.heads[text] = found
        return found

    def tail(self, text):
        """The weight of a text, and what comes of it by moves."""
        found = (weigh(self.pairs, text), changed(self.loose, text, len(text)))
        self.tails[text] = found
        return found

    def looked_up(self, row):
        """The weight of a row, and the rows behind its moves, with repetitions."""
        middle = len(row) // 2
        reach = middle + self.reach
        ahead = row[:reach]
        behind = row[middle:]
        weight, heads = self.heads.get(ahead) or self.head(ahead, middle)
        further, tails = self.tails.get(behind) or self.tail(behind)
        first = row[:middle]
        rest = row[reach:]
        found = [other + rest for other in heads] + [first + other for other in tails]
        if self.is_tied:
            found = found + self.tied(row)
        return weight + further, found

    def tied(self, row):
        """The rows behind the moves by rules of the ends."""
        found = [new + row[len(old):] for old, new in self.lefts if row.startswith(old)]
        found.extend([row[:len(row) - len(old)] + new for old, new in self.rights if row.endswith(old)])
        found.extend([new for old, new in self.wholes if row == old])
        return found


def changed(rules, text, middle):
    """What a text becomes by each rule at each place ahead of a middle."""
    found = []
    for old, new in rules:
        place = text.find(old)
        while 0 <= place < middle:
            found.append(text[:place] + new + text[place + len(old):])
            place = text.find(old, place + 1)
    return found
