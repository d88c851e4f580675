"""Leading: the rows to which moves lead, found as fast as plain play needs them."""


class Leads:
    """The rows behind the moves by some rules, in no promised order.

    Plays lead to many rows that share a half. So what moves make of a half is found once and
    kept; only moves over the middle, and those that are bound to an end, are found row by row.
    """

    def __init__(self, pairs, rules):
        self.pairs = pairs
        self.loose = [(rule.old, rule.new) for rule in rules if not rule.left and not rule.right]
        self.tied = [rule for rule in rules if rule.left or rule.right]
        self.halves = {}

    def half(self, text):
        """The weight of a text, and the texts that loose rules make of it."""
        if text not in self.halves:
            made = []
            for old, new in self.loose:
                made.extend(changed(text, old, new, 0, len(text)))
            self.halves[text] = (sum([weight * text.count(sign) for sign, weight in self.pairs]), made)
        return self.halves[text]

    def looked_up(self, row):
        """The weight of a row, and the rows behind its moves, with repetitions."""
        middle = len(row) // 2
        head = row[:middle]
        tail = row[middle:]
        weight, heads = self.half(head)
        further, tails = self.half(tail)
        found = [other + tail for other in heads] + [head + other for other in tails]
        for old, new in self.loose:
            reach = len(old) - 1
            if reach > 0:
                found.extend(changed(row, old, new, max(0, middle - reach), middle + reach))
        for rule in self.tied:
            found.extend(changed_at_ends(row, rule))
        return weight + further, found


def changed(row, old, new, start, end):
    """What a row becomes if an old stretch between start and end is changed, for each place."""
    found = []
    place = row.find(old, start, end)
    while place >= 0:
        found.append(row[:place] + new + row[place + len(old):])
        place = row.find(old, place + 1, end)
    return found


def changed_at_ends(row, rule):
    """What a row becomes by a rule that is bound to an end: one row, or none."""
    place = 0 if rule.left else len(row) - len(rule.old)
    if not rule.fits(row, place):
        return []
    return [row[:place] + rule.new + row[place + len(rule.old):]]
