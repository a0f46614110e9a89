"""The graph of all states that runs from a state come to.

Its states have numbers in the order in which they are met: 0 is the one from
which the runs go.
"""

from tiedsteps.errors import NoNumber, TooMany
from tiedsteps.plain import is_number


def check_most(most):
    """Raises NoNumber of any value that is no number from 1."""
    if not is_number(most) or most < 1:
        raise NoNumber(most)


class Graph:
    """All states that runs from a state come to, and the moves between them; it never changes."""

    def __init__(self, player, state, most):
        self._states = [state]
        # For each state the pair (number of the state ahead, move) by which it was met.
        self._met_by = [(0, "")]
        # For each state the pairs (move, number of the state behind it).
        self._ahead = []
        self._meet_all(player, most)
        self._settled = self._settled_numbers()

    def _meet_all(self, player, most):
        """Meets all states by breadth; raises TooMany if there are more than it may meet."""
        numbers = {self._states[0]: 0}
        while len(self._ahead) < len(self._states):
            at = len(self._ahead)
            state = self._states[at]
            row = []
            for move, behind in player.ahead(state):
                if behind not in numbers:
                    numbers[behind] = len(self._states)
                    self._states.append(behind)
                    self._met_by.append((at, move))
                row.append((move, numbers[behind]))
            if len(self._states) > most:
                raise TooMany(most)
            self._ahead.append(row)

    def _settled_numbers(self):
        """The states from which every run ends, each one behind all to which its moves lead."""
        left = [len(row) for row in self._ahead]
        leading = [[] for _ in self._ahead]
        for at, row in enumerate(self._ahead):
            for _, number in row:
                leading[number].append(at)
        settled = self._end_numbers()
        at = 0
        while at < len(settled):
            behind = settled[at]
            for number in leading[behind]:
                left[number] = left[number] - 1
                if left[number] == 0:
                    settled.append(number)
            at += 1
        return settled

    def _end_numbers(self):
        """The ends, as they are met."""
        return [number for number, row in enumerate(self._ahead) if not row]

    def _run_to(self, number):
        """A run with the fewest moves to a state."""
        run = []
        while number != 0:
            number, move = self._met_by[number]
            run.append(move)
        return run[::-1]

    def states(self):
        """All states, as they are met."""
        return list(self._states)

    def end_values(self):
        """The values of all ends, ascending."""
        # Of an end nothing but its values is left, so those of unlike ends are unlike.
        return sorted([self._states[number][0] for number in self._end_numbers()])

    def run_to_end(self):
        """A run with the fewest moves to an end, None if there is none."""
        found = self._end_numbers()
        return self._run_to(found[0]) if found else None

    def run_to(self, goal):
        """A run with the fewest moves to a state, None if there is no such one."""
        for number, state in enumerate(self._states):
            if state == goal:
                return self._run_to(number)
        return None

    def has_ring(self):
        """Whether some run never ends."""
        return len(self._settled) < len(self._states)

    def ring(self):
        """A ring, None if there is none."""
        if not self.has_ring():
            return None
        settled = {number: True for number in self._settled}
        # Behind each state that is not settled there is one more, so this comes to one twice.
        run = []
        made_ahead = {}
        at = 0
        while at not in made_ahead:
            made_ahead[at] = len(run)
            move, at = [pair for pair in self._ahead[at] if pair[1] not in settled][0]
            run.append(move)
        return run[:made_ahead[at]], run[made_ahead[at]:]

    def most_moves(self):
        """How many moves the longest run has, None if there is a ring."""
        if self.has_ring():
            return None
        lengths = [0] * len(self._states)
        for number in self._settled:
            lengths[number] = max([1 + lengths[behind] for _, behind in self._ahead[number]], default=0)
        return lengths[0]

    def parting(self):
        """Two runs to ends with unlike values, None if there are none."""
        found = self._end_numbers()
        return (self._run_to(found[0]), self._run_to(found[1])) if len(found) > 1 else None
