"""The order of rows, for lists of positions."""


def in_order(weights, positions):
    """Different positions by the order of their rows, then by seat."""
    marked = {mark_of(weights, row, seat): (row, seat) for row, seat in positions}
    return [marked[mark] for mark in sorted([str(mark) for mark in marked])]


def mark_of(weights, row, seat):
    """A string by which positions are ordered as the places of their rows are."""
    weight, length, indexes = weights.place(row)
    digits = "".join([str(index) for index in indexes])
    return f"{weight:012d} {length:012d} {digits} {seat}"
