"""Rings: marks "0" and "1" of which those behind a lead come again and again."""


def marks_of(answers):
    """The marks of bools."""
    return "".join(["1" if answer else "0" for answer in answers])


def kept_ring(lead, marks):
    """The least lead and the marks of one period behind it that mean the same; the period is least first."""
    ring = marks[lead:]
    # A ring that is turned by its least period is the same again.
    period = (ring + ring).find(ring, 1)
    while lead > 0 and marks[lead - 1] == marks[lead - 1 + period]:
        lead = lead - 1
    return lead, marks[:lead + period]


def spot_of(lead, many, n):
    """Which of so many marks is that of a number n."""
    if n < many:
        return n
    return lead + (n - lead) % (many - lead)


def unrolled(lead, marks, many):
    """The marks, going on until there are so many."""
    ring = marks[lead:]
    times = (many - lead) // len(ring) + 1
    return (marks[:lead] + ring * times)[:many]


def side_by_side(one_lead, one, other_lead, other):
    """A lead and two rows of as many marks that mean the same as two others with their leads."""
    period = len(one) - one_lead
    lead = one_lead if one_lead > other_lead else other_lead
    many = lead + period
    while (many - lead) % (len(other) - other_lead) > 0:
        many = many + period
    return lead, unrolled(one_lead, one, many), unrolled(other_lead, other, many)


def not_marked(marks):
    """The other mark for each one."""
    return marks.replace("0", "-").replace("1", "0").replace("-", "1")


def both_marked(one, other):
    """Marks "1" where two rows of as many marks both have it."""
    return marks_of_number(int(one, 2) & int(other, 2), len(one))


def one_marked(one, other):
    """Marks "1" where at least one of two has it."""
    return marks_of_number(int(one, 2) | int(other, 2), len(one))


def just_one_marked(one, other):
    """Marks "1" where just one of two has it."""
    return marks_of_number(int(one, 2) ^ int(other, 2), len(one))


def marks_of_number(number, many):
    """The last so many binary figures of a number."""
    return f"{number:b}".zfill(many)
