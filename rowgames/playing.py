"""Playing: all plays from a position, and who wins at the positions that are met."""

from rowgames.errors import TooMany
from rowgames.leading import Leads


class Plays:
    """The plays of a game, of at most so many positions each; what is judged is kept."""

    def __init__(self, game, most):
        self.game = game
        self.most = most
        self.leads = [Leads(game.weights.pairs, book.rules) for book in game.books]
        self.won = [{} for _ in game.books]

    def met_from(self, row, seat):
        """For each seat the met rows with those behind their moves, and all met rows by weight."""
        met = [{} for _ in self.leads]
        levels = {}
        front = [row]
        many = 1
        # Players move by turns: so all positions that are so many moves away are of one seat.
        while front:
            self.check_many(many)
            further = self.gone_on(front, seat, met[seat], levels)
            seat = self.game.judge(seat)
            front = [led for led in further if led not in met[seat]]
            many = many + len(front)
        return met, levels

    def gone_on(self, front, seat, behind, levels):
        """Puts rows of a seat behind the met ones; the different rows behind their moves."""
        leads = self.leads[seat]
        further = {}
        for row in front:
            weight, rows = leads.looked_up(row)
            behind[row] = rows
            levels.setdefault(weight, {})[row] = True
            for led in rows:
                further[led] = True
            self.check_many(len(further))
        return further

    def check_many(self, many):
        """Raise TooMany for more positions than the most."""
        if many > self.most:
            raise TooMany("rows", self.most)

    def is_won(self, row, seat):
        """Whether a row is won for a seat."""
        # What is judged was met from a position with few enough ones, so it has no more itself.
        if row not in self.won[seat]:
            met, levels = self.met_from(row, seat)
            self.judge_met(met, levels)
        return self.won[seat][row]

    def judge_met(self, met, levels):
        """Judges all met positions, the lightest rows first: moves lead to lighter ones."""
        for weight in sorted([int(key) for key in levels]):
            for seat, behind in enumerate(met):
                won = self.won[seat]
                judged = self.won[self.game.judge(seat)]
                for row in levels[weight]:
                    if row in behind and row not in won:
                        answers = [judged[led] for led in behind[row]]
                        won[row] = self.game.reads(is_goal(self.game, row), answers)


def is_goal(game, row):
    """Whether a row is a goal row of a game that has a goal."""
    return game.goal is not None and game.goal[row]
