"""Searching: members and endings that grow until machines of them are right."""

from rowgames.ledgers import entries_from
from rowgames.machines import Machine
from rowgames.playing import Plays
from rowgames.tables import look


class Search:
    """Members and endings of each seat, for machines of at most so many states."""

    def __init__(self, game, most, rows):
        self.game = game
        self.most = most
        self.plays = Plays(game, rows)
        self.members = [[""] for _ in game.books]
        self.ends = [[""] for _ in game.books]
        self.heard = [{} for _ in game.books]

    def told_of(self, seat, row):
        """For each ending of a seat whether the row with this ending is won."""
        heard = self.heard[seat].get(row, ())
        further = [self.plays.is_won(row + ending, seat) for ending in self.ends[seat][len(heard):]]
        self.heard[seat][row] = heard + tuple(further)
        return self.heard[seat][row]

    def kinds_of_members(self, seat):
        """The members of a seat by what is told of them; no two are alike."""
        return {self.told_of(seat, member): at for at, member in enumerate(self.members[seat])}

    def grown(self):
        """The first seat that comes to more members than the most, None if all seats are grown."""
        for seat in range(self.game.seats):
            further = self.first_unlike(seat)
            while further is not None:
                self.members[seat].append(further)
                if len(self.members[seat]) > self.most:
                    return seat
                further = self.first_unlike(seat)
        return None

    def first_unlike(self, seat):
        """The first row of a member and a sign more that is alike to no member; None if none is."""
        kinds = self.kinds_of_members(seat)
        rows = [member + sign for member in self.members[seat] for sign in self.game.weights.signs]
        # All are judged, whether they are needed or not: any of them may have too many positions.
        unlike = [row for row in rows if self.told_of(seat, row) not in kinds]
        if unlike == []:
            return None
        return unlike[0]

    def machine_of(self, seat):
        """The machine of a seat: a state for each member, in their order."""
        signs = self.game.weights.signs
        kinds = self.kinds_of_members(seat)
        members = self.members[seat]
        steps = [[kinds[self.told_of(seat, member + sign)] for sign in signs] for member in members]
        return Machine(signs, steps, [self.plays.is_won(member, seat) for member in members])

    def looked(self, stands):
        """The look at the machines; if they are wrong, the endings of that row are put behind the others."""
        machines = [self.machine_of(seat) for seat in range(self.game.seats)]
        found = look(self.game, *machines, most=stands)
        if not found:
            ends = self.ends[found.seat]
            for start in range(len(found.row) + 1):
                if found.row[start:] not in ends:
                    ends.append(found.row[start:])
        return found

    def parting(self, seat):
        """A triple (i, j, z) for each two members i < j of a seat: z is the first ending that parts them."""
        answers = [self.told_of(seat, member) for member in self.members[seat]]
        triples = []
        for at, one in enumerate(answers):
            for further in range(at + 1, len(answers)):
                unlike = [answer != other for answer, other in zip(one, answers[further])]
                triples.append((at, further, self.ends[seat][unlike.index(True)]))
        return tuple(triples)

    def ledger_of_parting(self, seat, triples):
        """The entries of all plays from both members of each triple, with its ending."""
        members = self.members[seat]
        ledger = {}
        for at, further, ending in triples:
            for row in (members[at] + ending, members[further] + ending):
                # What is in it has all positions behind it in it, too.
                if (row, seat) not in ledger:
                    entries = entries_from(self.plays, row, seat)
                    for position, entry in entries.items():
                        ledger[position] = entry
        return ledger

    def members_and_endings(self):
        """The members of each seat, and the endings that part them."""
        members = tuple([tuple(rows) for rows in self.members])
        return members, tuple([self.parting(seat) for seat in range(self.game.seats)])
