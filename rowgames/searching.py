"""Searching: members and endings that grow until machines of them are right."""

from rowgames.ends import Ends
from rowgames.ledgers import entries_from
from rowgames.machines import Machine
from rowgames.playing import Plays
from rowgames.tables import look_on


class Search:
    """Members and endings of each seat, for machines of at most so many states."""

    def __init__(self, game, most, rows):
        self.game = game
        self.most = most
        self.plays = Plays(game, rows)
        self.ends_met = Ends(game)
        self.members = [[""] for _ in game.books]
        # The first ending is the empty one: it tells whether a member itself is won.
        self.ends = [[""] for _ in game.books]
        self.machines = [None for _ in game.books]
        self.heard = [{} for _ in game.books]

    def told_of(self, seat, row):
        """For each ending of a seat whether the row with this ending is won."""
        heard = self.heard[seat].get(row, ())
        ends = self.ends[seat]
        if len(heard) < len(ends):
            heard = heard + tuple([self.plays.is_won(row + ending, seat) for ending in ends[len(heard):]])
            self.heard[seat][row] = heard
        return heard

    def kinds_of_members(self, seat):
        """The members of a seat by what is told of them; no two are alike."""
        return {self.told_of(seat, member): at for at, member in enumerate(self.members[seat])}

    def grown(self):
        """The first seat that comes to more members than the most, None if all seats are grown."""
        for seat in range(self.game.seats):
            if self.is_overgrown(seat):
                return seat
        return None

    def is_overgrown(self, seat):
        """Whether a seat, when each further row that is alike to no member becomes one, has too many."""
        members = self.members[seat]
        kinds = self.kinds_of_members(seat)
        rows = self.rows_behind(members)
        # All are judged, whether they are needed or not: any of them may have too many positions.
        told = [self.told_of(seat, row) for row in rows]
        led = []
        while len(led) < len(rows):
            at = len(led)
            if told[at] not in kinds:
                kinds[told[at]] = len(members)
                members.append(rows[at])
                if len(members) > self.most:
                    return True
                further = self.rows_behind(members[-1:])
                rows.extend(further)
                told.extend([self.told_of(seat, row) for row in further])
            led.append(kinds[told[at]])
        self.machines[seat] = self.machine_of(kinds, led)
        return False

    def rows_behind(self, members):
        """The rows of members and a sign more."""
        return [member + sign for member in members for sign in self.game.weights.signs]

    def machine_of(self, kinds, led):
        """The machine with a state for each kind of members, in their order.

        Each kind begins with the answer at the member itself; led tells, sign by sign, where the
        members lead.
        """
        signs = self.game.weights.signs
        many = len(signs)
        steps = [led[at * many:(at + 1) * many] for at in range(len(kinds))]
        return Machine(signs, steps, [kind[0] for kind in kinds])

    def looked(self, stands):
        """The look at the machines; if they are wrong, the endings of that row are put behind the others."""
        found = look_on(self.ends_met, self.plays.equation, self.game, tuple(self.machines), stands)
        if not found:
            ends = self.ends[found.seat]
            for start in range(len(found.row) + 1):
                if found.row[start:] not in ends:
                    ends.append(found.row[start:])
        return found

    def parting(self, seat):
        """A triple (i, j, z) for each two members i < j of a seat: z is the first ending that parts them."""
        answers = [self.told_of(seat, member) for member in self.members[seat]]
        triples = []
        for at, one in enumerate(answers):
            for further in range(at + 1, len(answers)):
                unlike = [answer != other for answer, other in zip(one, answers[further])]
                triples.append((at, further, self.ends[seat][unlike.index(True)]))
        return tuple(triples)

    def ledger_of_parting(self, seat, triples):
        """The entries of all plays from both members of each triple, with its ending."""
        members = self.members[seat]
        rows = {members[at] + ending: True for one, other, ending in triples for at in (one, other)}
        return entries_from(self.plays, list(rows), seat)

    def members_and_endings(self):
        """The members of each seat, and the endings that part them."""
        members = tuple([tuple(rows) for rows in self.members])
        return members, tuple([self.parting(seat) for seat in range(self.game.seats)])
