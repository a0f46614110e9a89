"""Benches, on which a program is played move by move, and runs."""

from tiedsteps.errors import NoMove, NoName, NoNumber, NoOrder, NothingBack, TooMany
from tiedsteps.plain import is_number, is_row
from tiedsteps.players import Player
from tiedsteps.rules import is_end, is_move, is_order, moves, start_state, step, values_in


def _states_along(program, state, run):
    """The list of the states behind each move of a run from a state."""
    if not is_row(run):
        raise NoMove(None)
    player = Player(program)
    states = []
    for index, move in enumerate(run):
        if not is_move(program, state, move):
            raise NoMove(index)
        state = player.after(state, move)
        states.append(state)
    return states


class Trial:
    """A with block behind which a bench is as it was ahead of it, unless it is kept."""

    def __init__(self, bench):
        self._bench = bench
        # None until keep() is called: a with block's end asks of an attribute only whether it is None.
        self._kept = None
        self._made = []
        self._states = []

    def __enter__(self):
        self._kept = None
        self._made = list(self._bench._made)
        self._states = list(self._bench._states)
        return self._bench

    def __exit__(self, kind, value, trace):
        if kind is not None or self._kept is None:
            self._bench._made = self._made
            self._bench._states = self._states

    def keep(self):
        """What is made in the block stays made, unless an exception leaves it."""
        self._kept = True


class Bench:
    """A program, a start, and the moves made from there."""

    def __init__(self, program, values, changed):
        self._states = [start_state(program, values, changed)]
        self._program = program
        self._values = list(values)
        self._changed = list(changed)
        self._made = []

    def __call__(self, move):
        if move not in self:
            raise NoMove(len(self._made))
        state = step(self._program, self._states[-1], move)
        self._states.append(state)
        self._made.append(move)
        return state

    def __iadd__(self, run):
        states = _states_along(self._program, self._states[-1], run)
        self._states.extend(states)
        self._made.extend(list(run))
        return self

    def __eq__(self, other):
        if not isinstance(other, Bench) or self._program != other._program:
            return False
        return self._states[0] == other._states[0] and self._made == other._made

    def __len__(self):
        return len(self._made)

    def __iter__(self):
        return iter(self._made)

    def __contains__(self, value):
        return is_move(self._program, self._states[-1], value)

    def __getitem__(self, variable):
        if not isinstance(variable, str) or variable not in self._program.variables():
            raise NoName(variable)
        return values_in(self._program, self._states[-1])[variable]

    @property
    def ended(self):
        """Whether no move is possible now."""
        return is_end(self._program, self._states[-1])

    def state(self):
        """The state now."""
        return self._states[-1]

    def moves(self):
        """The moves that are possible now, in order."""
        return moves(self._program, self._states[-1])

    def made(self):
        """The moves made."""
        return list(self._made)

    def listed(self):
        """What it is iterated over: the moves made."""
        return list(self._made)

    def back(self, many=1):
        """Takes the last moves back."""
        if not is_number(many) or not 1 <= many <= len(self._made):
            raise NothingBack(many)
        self._states = self._states[:-many]
        self._made = self._made[:-many]

    def twin(self):
        """An equal bench that goes on by itself."""
        bench = Bench(self._program, self._values, self._changed)
        bench._states = list(self._states)
        bench._made = list(self._made)
        return bench

    def trial(self):
        """What is used with "with" to make moves that are taken back."""
        return Trial(self)

    def trying(self, visitor, *, kept=False):
        """What a function of the bench returns within a trial."""
        trial = Trial(self)
        with trial as bench:
            told = visitor(bench)
            if kept is True:
                trial.keep()
        return told


def played(program, state, run):
    """The state behind a run from a state."""
    states = _states_along(program, state, run)
    return states[-1] if states else state


def is_run(program, state, run):
    """Whether any value is a run from a state."""
    try:
        _states_along(program, state, run)
    except NoMove:
        return False
    return True


def tried(bench, run):
    """The list of the states behind each move of a run, which is taken back."""
    made = len(bench)
    with bench.trial():
        bench += run
        states = bench._states[made + 1:]
    return states


def by_order(program, state, order, *, most=200):
    """The run that an order makes from a state up to an end."""
    if not is_order(program, order):
        raise NoOrder(order)
    if not is_number(most) or most < 0:
        raise NoNumber(most)
    run, behind = Player(program).run_by(state, order)
    # An order that comes to a state twice goes on for ever, so beyond any number of moves.
    if len(run) > most or not is_end(program, behind):
        raise TooMany(most)
    return run
