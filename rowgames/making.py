"""Making: steps and told of machines that are often needed."""


def trie(signs, rows):
    """A machine that tells just these rows. No way leads out of its state 1."""
    many = len(signs)
    steps = [[1] * many, [1] * many]
    told = [False, False]
    for row in rows:
        state = 0
        for sign in row:
            at = signs.index(sign)
            if steps[state][at] == 1:
                steps[state][at] = len(steps)
                steps.append([1] * many)
                told.append(False)
            state = steps[state][at]
        told[state] = True
    return steps, told


def finder(signs, text):
    """A machine that tells the rows in which a text stands; its state is how much of it is found."""
    steps = []
    # A sign that does not go on leads where it would lead behind less of the text: behind the
    # longest end of what is found, other than all of it, that the text begins with.
    back = [0] * len(signs)
    for found, sign in enumerate(text):
        at = signs.index(sign)
        onward = list(back)
        onward[at] = found + 1
        steps.append(onward)
        back = steps[back[at]]
    steps.append([len(text)] * len(signs))
    return steps, [False] * len(text) + [True]


def counter(signs, sign, many):
    """A machine that tells the rows with so many of a sign. Its last state has seen more."""
    steps = []
    for seen in range(many + 1):
        steps.append([seen + 1 if other == sign else seen for other in signs])
    steps.append([many + 1] * len(signs))
    return steps, [False] * many + [True, False]


def wheel(signs, sign, modulus, rest):
    """A machine that tells the rows in which the number of a sign leaves a rest."""
    steps = []
    for seen in range(modulus):
        further = (seen + 1) % modulus
        steps.append([further if other == sign else seen for other in signs])
    return steps, [seen == rest for seen in range(modulus)]
