"""Leading: the rows to which moves lead, found as fast as plain play needs them."""

from rowgames.letters import weigh


class Leads:
    """The rows behind the moves by some rules, in no promised order.

    Plays lead to many rows that share a half. So what moves make of a half is found once and
    kept, and likewise what they make of the few signs around the middle. Only rules that are
    bound to an end are tried row by row.
    """

    def __init__(self, pairs, rules):
        self.pairs = pairs
        self.loose = [(rule.old, rule.new) for rule in rules if not rule.left and not rule.right]
        self.tied = [rule for rule in rules if rule.left or rule.right]
        # How far a stretch over the middle reaches to one side of it.
        self.reach = max([len(old) for old, _ in self.loose], default=1) - 1
        self.halves = {}
        self.bridges = {}

    def half(self, text):
        """The weight of a text, and the texts that loose rules make of it."""
        if text not in self.halves:
            self.halves[text] = (weigh(self.pairs, text), changed(self.loose, text, None))
        return self.halves[text]

    def bridge(self, head, tail):
        """The texts that loose rules make of a head and a tail by old stretches that go over both."""
        if (head, tail) not in self.bridges:
            self.bridges[(head, tail)] = changed(self.loose, head + tail, len(head))
        return self.bridges[(head, tail)]

    def looked_up(self, row):
        """The weight of a row, and the rows behind its moves, with repetitions."""
        middle = len(row) // 2
        head = row[:middle]
        tail = row[middle:]
        weight, heads = self.half(head)
        further, tails = self.half(tail)
        found = [other + tail for other in heads] + [head + other for other in tails]
        if self.reach > 0:
            start = max(0, middle - self.reach)
            bridges = self.bridge(row[start:middle], row[middle:middle + self.reach])
            found.extend([row[:start] + other + row[middle + self.reach:] for other in bridges])
        for rule in self.tied:
            place = 0 if rule.left else len(row) - len(rule.old)
            if rule.fits(row, place):
                found.append(row[:place] + rule.new + row[place + len(rule.old):])
        return weight + further, found


def changed(rules, text, middle):
    """What a text becomes by each rule at each place; only over the middle if it is not None."""
    found = []
    for old, new in rules:
        place = text.find(old)
        while place >= 0:
            end = place + len(old)
            if middle is None or place < middle < end:
                found.append(text[:place] + new + text[end:])
            place = text.find(old, place + 1)
    return found
