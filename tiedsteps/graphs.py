"""The graph of all states that runs from a state come to."""

from tiedsteps.errors import NoNumber, TooMany
from tiedsteps.plain import is_number


def check_most(most):
    """Raises NoNumber of any value that is no number from 1."""
    if not is_number(most) or most < 1:
        raise NoNumber(most)


class Web:
    """States by numbers, and the moves between them.

    Runs from unlike starts come to many like states, so what is found behind
    a state is kept for all graphs that share a web.
    """

    def __init__(self, player):
        self._player = player
        self._states = []
        self._numbers = {}
        # For each number whose moves were made the pairs (move, number of the state behind it).
        self._ahead = {}
        # For each settled number the most moves of a run, None if one never ends.
        self._lengths = {}

    def size(self):
        """How many states have a number."""
        return len(self._states)

    def number_of(self, state):
        """The number of a state."""
        number = self._numbers.setdefault(state, len(self._states))
        if number == len(self._states):
            self._states.append(state)
        return number

    def state_of(self, number):
        """The state of a number."""
        return self._states[number]

    def ahead(self, number):
        """The list of the pairs (move, number of the state behind it), in order."""
        row = self._ahead.get(number)
        if row is None:
            behind = self._player.ahead(self._states[number])
            row = [(move, self.number_of(state)) for move, state in behind]
            self._ahead[number] = row
        return row

    def meet(self, root, most):
        """The dict from the numbers of all states that runs from one come to, as they are met by breadth.

        To each belongs the pair (number of the state ahead, move) by which it
        was met, None to the first. Raises TooMany if they are more than most.
        """
        met_by = {root: None}
        met = [root]
        at = 0
        while at < len(met):
            number = met[at]
            for move, behind in self.ahead(number):
                if behind not in met_by:
                    met_by[behind] = (number, move)
                    met.append(behind)
            if len(met) > most:
                raise TooMany(most)
            at += 1
        return met_by

    def length_of(self, number):
        """The most moves of a run from a settled state, None if one never ends."""
        return self._lengths[number]

    def settle(self, numbers):
        """Finds the most moves of runs from some states, among which are all to which their moves lead."""
        fresh = [number for number in numbers if number not in self._lengths]
        left = {number: 0 for number in fresh}
        leading = {number: [] for number in fresh}
        for number in fresh:
            for _, behind in self._ahead[number]:
                # One behind which a run never ends is left for ever.
                if self._lengths.get(behind) is None:
                    left[number] = left[number] + 1
                if behind in leading:
                    leading[behind].append(number)
        self._settle_in_turn(left, leading)
        for number in fresh:
            if left[number] > 0:
                self._lengths[number] = None

    def _settle_in_turn(self, left, leading):
        """Settles each state behind all to which its moves lead, as far as this goes."""
        settled = [number for number in left if left[number] == 0]
        at = 0
        while at < len(settled):
            number = settled[at]
            self._lengths[number] = max([1 + self._lengths[behind] for _, behind in self._ahead[number]], default=0)
            for other in leading[number]:
                left[other] = left[other] - 1
                if left[other] == 0:
                    settled.append(other)
            at += 1


class Graph:
    """All states of a web that runs from a state come to; raises TooMany if they are more than it may meet."""

    def __init__(self, web, state, most):
        self._web = web
        self._met_by = web.meet(web.number_of(state), most)
        self._met = list(self._met_by)
        web.settle(self._met)

    def _end_numbers(self):
        """The ends, as they are met."""
        return [number for number in self._met if not self._web.ahead(number)]

    def _run_to(self, number):
        """A run with the fewest moves to a state."""
        run = []
        while self._met_by[number] is not None:
            number, move = self._met_by[number]
            run.append(move)
        return run[::-1]

    def web(self):
        """The web in which its states have numbers."""
        return self._web

    def numbers(self):
        """The numbers of all states in the web, as they are met."""
        return list(self._met)

    def states(self):
        """All states, as they are met."""
        return [self._web.state_of(number) for number in self._met]

    def end_values(self):
        """The values of all ends, ascending."""
        # Of an end nothing but its values is left, so those of unlike ends are unlike.
        return sorted([self._web.state_of(number)[0] for number in self._end_numbers()])

    def run_to_end(self):
        """A run with the fewest moves to an end, None if there is none."""
        found = self._end_numbers()
        return self._run_to(found[0]) if found else None

    def run_to(self, goal):
        """A run with the fewest moves to a state, None if there is no such one."""
        for number in self._met:
            if self._web.state_of(number) == goal:
                return self._run_to(number)
        return None

    def most_moves(self):
        """How many moves the longest run has, None if there is a ring."""
        return self._web.length_of(self._met[0])

    def has_ring(self):
        """Whether some run never ends."""
        return self.most_moves() is None

    def ring(self):
        """A ring, None if there is none."""
        if not self.has_ring():
            return None
        # Behind each state with a ring there is one more, so this comes to one twice.
        run = []
        made_ahead = {}
        at = self._met[0]
        while at not in made_ahead:
            made_ahead[at] = len(run)
            move, at = [pair for pair in self._web.ahead(at) if self._web.length_of(pair[1]) is None][0]
            run.append(move)
        return run[:made_ahead[at]], run[made_ahead[at]:]

    def parting(self):
        """Two runs to ends with unlike values, None if there are none."""
        found = self._end_numbers()
        return (self._run_to(found[0]), self._run_to(found[1])) if len(found) > 1 else None
