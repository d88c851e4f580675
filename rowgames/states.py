"""States: machines as lists of next states, joined, shrunk and turned."""

from rowgames.errors import TooMany

ROUNDS = 8


def led_on(signs, steps, state, text):
    """The state behind a text that is read from a state on."""
    for sign in text:
        state = steps[state][signs.index(sign)]
    return state


def reached(steps):
    """The states to which rows lead, as they are met from the state 0."""
    order = [0]
    met = {0: True}
    at = 0
    while at < len(order):
        onward = steps[order[at]]
        for state in onward:
            if state not in met:
                met[state] = True
                order.append(state)
        at = at + 1
    return order


def paired(one, other):
    """The pairs of states to which rows lead in two machines, and the next pairs by number."""
    pairs = [(0, 0)]
    numbers = {(0, 0): 0}
    steps = []
    while len(steps) < len(pairs):
        left, right = pairs[len(steps)]
        onward = []
        for pair in zip(one[left], other[right]):
            if pair not in numbers:
                numbers[pair] = len(pairs)
                pairs.append(pair)
            onward.append(numbers[pair])
        steps.append(onward)
    return pairs, steps


def origins(steps):
    """For each state and sign, at state * signs + sign, the states that come there by the sign."""
    many = len(steps[0])
    found = [[] for _ in range(len(steps) * many)]
    for state, onward in enumerate(steps):
        for sign, led in enumerate(onward):
            found[led * many + sign].append(state)
    return found


def smaller_part(block, states):
    """The states of a block that stand in a part of it, or those that do not, if they are fewer."""
    if 2 * len(states) <= len(block):
        return states
    inside = {state: True for state in states}
    return [state for state in block if state not in inside]


def kinds_of(steps, told):
    """For each state the number of its kind: states of one kind tell the same endings.

    States are of unlike kinds if a sign leads them into unlike kinds. A few rounds over all states
    are mostly enough to find the kinds. If not, or if the rounds bring just a few kinds more each,
    as with states in a chain, they are split one by one.
    """
    kinds = [1 if answer else 0 for answer in told]
    columns = [list(column) for column in zip(*steps)]
    counts = [len(set(kinds))]
    while not are_slow(counts):
        kinds, further = split_by_columns(kinds, columns)
        if further == counts[-1]:
            return kinds
        counts.append(further)
    return split_one_by_one(kinds, steps)


def are_slow(counts):
    """Whether it is not worth while to go on with rounds, each of which came to so many kinds."""
    return len(counts) > ROUNDS or (len(counts) > 4 and counts[-1] - counts[-4] < 10)


def split_by_columns(kinds, columns):
    """Numbers of the kinds that states have by their kind and by those of the next states; how many there are."""
    ahead = [[kinds[led] for led in column] for column in columns]
    marks = list(zip(kinds, *ahead))
    found = {mark: True for mark in marks}
    numbers = {mark: number for number, mark in enumerate(found)}
    return [numbers[mark] for mark in marks], len(numbers)


def split_one_by_one(kinds, steps):
    """The kinds of states, of which some are known to be of unlike kinds.

    Hopcroft's way: kinds are split until all states of one are led into the same kinds. It is
    the smaller part that gets a new number; so no state is moved often.
    """
    many = len(steps[0])
    ahead = origins(steps)
    found = list(kinds)
    blocks = {}
    for kind in sorted(set(found)):
        blocks[kind] = {}
    for state, kind in enumerate(found):
        blocks[kind][state] = True
    waiting = list(blocks)
    while waiting:
        splitter = list(blocks[waiting.pop()])
        for sign in range(many):
            hit = {}
            for state in splitter:
                for origin in ahead[state * many + sign]:
                    hit.setdefault(found[origin], []).append(origin)
            for kind, states in hit.items():
                moved = smaller_part(blocks[kind], states)
                if moved == []:
                    continue
                number = len(blocks)
                blocks[number] = {state: True for state in moved}
                for state in moved:
                    del blocks[kind][state]
                    found[state] = number
                waiting.append(number)
    return found


def smallest(steps, told):
    """Steps and told of the least machine, its states numbered as they are met."""
    kinds = kinds_of(steps, told)
    met = [0]
    numbers = {kinds[0]: 0}
    least = []
    while len(least) < len(met):
        row = []
        onward = steps[met[len(least)]]
        for state in onward:
            if kinds[state] not in numbers:
                numbers[kinds[state]] = len(met)
                met.append(state)
            row.append(numbers[kinds[state]])
        least.append(row)
    return least, [told[state] for state in met]


def mirrored(steps, told, most):
    """Steps and told of the least machine of the mirror images, for a machine that is least.

    A state of it tells, for each old state, whether what is read so far, turned, leads from
    there to a told one. All old states are reached, so no two of these states are alike.
    """
    sets = [tuple(told)]
    numbers = {sets[0]: 0}
    turned = []
    while len(turned) < len(sets):
        inside = sets[len(turned)]
        row = []
        for sign in range(len(steps[0])):
            before = tuple([inside[onward[sign]] for onward in steps])
            if before not in numbers:
                numbers[before] = len(sets)
                sets.append(before)
            row.append(numbers[before])
        if len(sets) > most:
            raise TooMany("states", most)
        turned.append(row)
    return turned, [inside[0] for inside in sets]
