"""Playing: all plays from a position, and who wins at the positions that are met."""

from rowgames.errors import TooMany
from rowgames.games import Equation
from rowgames.leading import Leads
from rowgames.states import led_on


class Plays:
    """The plays of a game, of at most so many positions each. What is met and judged is kept.

    All positions behind a met one are met before anything else is done, and likewise judged. When
    TooMany was raised, nothing further is to be asked.
    """

    def __init__(self, game, most):
        self.game = game
        self.most = most
        self.leads = [Leads(game.weights.pairs, book.rules) for book in game.books]
        # For each seat by rows: the rows behind the moves, whether it is won, and a number of
        # positions that plays from there do not exceed.
        self.rows_led = [{} for _ in game.books]
        self.won = [{} for _ in game.books]
        self.bounds = [{} for _ in game.books]
        self.equation = Equation(game)
        self.heads = {}
        self.goals = {}

    def is_won(self, row, seat):
        """Whether a row is won for a seat."""
        if row not in self.won[seat]:
            self.judge_from(row, seat)
        return self.won[seat][row]

    def judge_from(self, row, seat):
        """Judges all positions to which plays lead; the new ones by weight."""
        levels, bound = self.meet(row, seat)
        # Positions that were met before are counted by their bounds, perhaps several times.
        if bound > self.most:
            bound = self.count_from(row, seat)
        self.judge(levels, bound)
        return levels

    def meet(self, row, seat):
        """Meets all positions to which plays lead; the new ones by weight, and a bound of how many there are."""
        levels = {}
        front = [row]
        many = 1
        others = 0
        # Players move by turns: so all positions that are so many moves away are of one seat.
        while front:
            self.check_many(many)
            further = self.gone_on(front, seat, levels)
            seat = self.game.judges[seat]
            behind = self.rows_led[seat]
            bounds = self.bounds[seat]
            front = [led for led in further if led not in behind]
            many = many + len(front)
            if len(front) < len(further):
                others = others + sum([bounds[led] for led in further if led in bounds])
        return levels, many + others

    def gone_on(self, front, seat, levels):
        """Meets rows of a seat; the different rows behind their moves."""
        leads = self.leads[seat]
        behind = self.rows_led[seat]
        further = {}
        for row in front:
            weight, rows = leads.looked_up(row)
            behind[row] = rows
            if weight not in levels:
                levels[weight] = [[] for _ in self.leads]
            levels[weight][seat].append(row)
            for led in rows:
                further[led] = True
            if len(further) > self.most:
                raise TooMany("rows", self.most)
        return further

    def check_many(self, many):
        """Raise TooMany for more positions than the most."""
        if many > self.most:
            raise TooMany("rows", self.most)

    def reached_from(self, rows, seat):
        """For each seat the rows to which plays lead from met rows of a seat."""
        reached = [{} for _ in self.rows_led]
        front = rows
        while front:
            found = reached[seat]
            for row in front:
                found[row] = True
            behind = self.rows_led[seat]
            seat = self.game.judges[seat]
            found = reached[seat]
            further = {led: True for row in front for led in behind[row]}
            front = [led for led in further if led not in found]
        return reached

    def count_from(self, row, seat):
        """To how many positions plays lead from a met one; raises TooMany."""
        many = sum([len(rows) for rows in self.reached_from([row], seat)])
        self.check_many(many)
        return many

    def judge(self, levels, bound):
        """Judges met positions, the lightest rows first: moves lead to lighter ones."""
        readings = self.equation.readings
        for weight in sorted([int(key) for key in levels]):
            for seat, rows in enumerate(levels[weight]):
                behind = self.rows_led[seat]
                won = self.won[seat]
                bounds = self.bounds[seat]
                judged = self.won[self.game.judges[seat]]
                for row in rows:
                    answers = [judged[led] for led in behind[row]]
                    some = (False in answers, True in answers)
                    bare, with_goal = readings.get(some) or self.equation.read_by(some)
                    won[row] = bare if bare == with_goal or not self.is_goal(row) else with_goal
                    bounds[row] = bound

    def is_goal(self, row):
        """Whether a row is a goal row of a game that has a goal. What its halves do is kept, too."""
        if self.game.goal is None:
            return False
        middle = len(row) // 2
        head = row[:middle]
        if head not in self.heads:
            self.heads[head] = self.led_to_goal(0, head)
        state = self.heads[head]
        tails = self.goals.setdefault(state, {})
        tail = row[middle:]
        if tail not in tails:
            tails[tail] = self.game.goal.told[self.led_to_goal(state, tail)]
        return tails[tail]

    def led_to_goal(self, state, text):
        """The state of the goal behind a text that is read from a state on."""
        return led_on(self.game.goal.signs, self.game.goal.steps, state, text)


def is_goal(game, row):
    """Whether a row is a goal row of a game that has a goal."""
    return game.goal is not None and game.goal[row]
