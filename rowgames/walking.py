"""Walking: all stands that rows have, in the order of their first rows."""

from rowgames.errors import TooMany
from rowgames.surveying import FIRST, Readings


def walk(survey, most):
    """Each code of a stand and a state that rows have, with the first row.

    The order is that of these rows. The first row of a code, without its last sign, is the first
    one of its own code: so it is enough to go on from first rows. What is to come is kept by
    weight and length as one number, and there by the indexes of the signs, which are in order as
    texts are. As at most so many codes come, no row has more signs.
    """
    signs = survey.game.weights.signs
    farther = [pair[1] * (most + 2) + 1 for pair in survey.game.weights.pairs]
    waiting = {0: {"": (FIRST, "")}}
    seen = {}
    while waiting:
        place = min([int(key) for key in waiting])
        nearest = waiting.pop(place)
        for marks in sorted(list(nearest), key=str):
            code, row = nearest[marks]
            if code in seen:
                continue
            if len(seen) == most:
                raise TooMany("stands", most)
            seen[code] = True
            yield code, row
            for at, further in enumerate(survey.behind(code)):
                if further not in seen:
                    waiting.setdefault(place + farther[at], {})[f"{marks}{at}"] = (further, row + signs[at])


def passed_pairs(survey, equation, among, most):
    """The pairs, with their first rows, up to the first one that fails; that one's row and seat.

    A pair is a stand and a state of among. It fails if the state is told (without among: always)
    and the equation of a seat fails at the stand. Row and seat are None if no pair fails.
    """
    readings = Readings(survey, equation)
    passed = []
    for code, row in walk(survey, most):
        if among is None or among.told[code[6]]:
            seat = readings.failing(code)
            if seat is not None:
                return with_stands(survey, passed), row, seat
        passed.append((code, row))
    return with_stands(survey, passed), None, None


def with_stands(survey, passed):
    """Codes and rows as pairs of a stand and a state, and rows."""
    return [((survey.stand_of_code(code), code[6]), row) for code, row in passed]
