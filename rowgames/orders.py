"""The order of rows."""


def in_order(signs, rows):
    """Different rows of one weight, one at least, by length and then by the signs in order."""
    text = "\n".join(rows)
    # Letters need not be in the order of the signs, figures are.
    for at, sign in enumerate(signs):
        text = text.replace(sign, str(at))
    marks = sorted(sorted(text.split("\n"), key=str), key=len)
    text = "\n".join(marks)
    for at, sign in enumerate(signs):
        text = text.replace(str(at), sign)
    return text.split("\n")


def positions_in_order(signs, met, levels):
    """The positions of all seats by their rows, then by seat. Rows are given by seat, and by weight and seat."""
    positions = []
    for weight in sorted([int(key) for key in levels]):
        rows = in_order(signs, list({row: True for rows in levels[weight] for row in rows}))
        positions.extend([(row, seat) for row in rows for seat in range(len(met)) if row in met[seat]])
    return positions
