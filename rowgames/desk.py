"""The desk: lines that say what is played, and lines that ask for answers."""

from rowgames.commands import read_command
from rowgames.doing import State, do


class Desk:
    """Weights, rules, machines and a game, with all that was there ahead of each change."""

    def __init__(self):
        self._state = State(None, [[], []], {}, None)
        self._past = []
        self.game = None

    @property
    def names(self):
        """The names of the machines, ascending."""
        return tuple(sorted([str(name) for name in self._state.machines]))

    def __len__(self):
        return len(self._past)

    def __call__(self, line):
        return self.say(line)

    def say(self, line):
        """Does a line and returns its answer."""
        command = read_command(line)
        if command[0] == "undo":
            return self.take_back()
        answer, state = do(self._state, command)
        if state is not None:
            self.put(state, self._past + [self._state])
        return answer

    def run(self, *lines):
        """The answers to lines. If one raises an error, none of them is done."""
        trial = Desk()
        trial.put(self._state, self._past)
        answers = [trial.say(line) for line in lines]
        self.put(trial._state, trial._past)
        return answers

    def take_back(self):
        """Takes back the last change that is not taken back."""
        if self._past == []:
            return "nothing"
        self.put(self._past[-1], self._past[:-1])
        return "ok"

    def put(self, state, past):
        """Puts other things on the desk; past has what was there ahead of each change."""
        self._state = state
        self._past = past
        self.game = state.game
