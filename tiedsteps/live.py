"""Live: a simulator plays a program moment by moment, by one order."""

from tiedsteps.errors import NeverEnds, NoName, NoNumber, NoOrder, NoPlan, NoStart, NothingBack
from tiedsteps.plain import is_number
from tiedsteps.players import Player
from tiedsteps.rules import are_values, is_end, is_order, start_state


def _check_put(program, name, value):
    """Raises NoName of what is no input, NoNumber of a value that is none."""
    if not isinstance(name, str) or name not in program.inputs():
        raise NoName(name)
    if not is_number(value):
        raise NoNumber(value)


def _check_order(program, order):
    """Raises NoOrder of any value that is no order."""
    if not is_order(program, order):
        raise NoOrder(order)


def _with_put(program, values, name, value):
    """The values with one of them put."""
    return tuple([value if variable == name else held for variable, held in zip(program.variables(), values)])


def _moment_played(program, order, values, settled):
    """The pair (run, values at its end) of a moment, where other values had settled in the last one."""
    changed = [
        variable
        for variable, value, before in zip(program.variables(), values, settled)
        if value != before
    ]
    if not changed:
        return [], values
    run, state = Player(program).run_by(start_state(program, values, changed), order)
    if not is_end(program, state):
        raise NeverEnds(len(run))
    return run, state[0]


class SimulatorTrial:
    """A with block behind which a simulator is as it was ahead of it, unless it is kept."""

    def __init__(self, simulator):
        self._simulator = simulator
        self._before = simulator
        # None until keep() is called: a with block's end asks of an attribute only whether it is None.
        self._kept = None

    def __enter__(self):
        self._kept = None
        self._before = self._simulator.twin()
        return self._simulator

    def __exit__(self, kind, value, trace):
        if kind is not None or self._kept is None:
            self._simulator._values = self._before._values
            self._simulator._settled = self._before._settled
            self._simulator._moment = self._before._moment
            self._simulator._order = self._before._order
            self._simulator._planned = self._before._planned
            self._simulator._traced = self._before._traced
            self._simulator._past = self._before._past

    def keep(self):
        """What is done in the block stays done, unless an exception leaves it."""
        self._kept = True


class Simulator:
    """A program, values that change as it runs, a moment, and what is planned for later ones."""

    def __init__(self, program, values, *, order=None):
        if not are_values(program, values):
            raise NoStart(values)
        if order is not None:
            _check_order(program, order)
        self._program = program
        self._values = tuple(values)
        # The values at the end of the last run: an input that has another one has changed.
        self._settled = tuple(values)
        self._moment = 0
        self._order = tuple(program.names() if order is None else order)
        self._planned = ()
        self._traced = []
        # What undo goes back to, one for each deed.
        self._past = []

    def __len__(self):
        return len(self._past)

    def __iter__(self):
        raise TypeError("a simulator is not iterated over")

    def __getitem__(self, name):
        if not isinstance(name, str) or name not in self._program.variables():
            raise NoName(name)
        return self.now()[name]

    @property
    def moment(self):
        """The moment, a number."""
        return self._moment

    @property
    def order(self):
        """The tuple of all names by which those that are awake go ahead."""
        return self._order

    @order.setter
    def order(self, value):
        _check_order(self._program, value)
        self._remember()
        self._order = tuple(value)

    def _remember(self):
        """Keeps what is now, so that the deed that follows can be undone."""
        now = (self._values, self._settled, self._moment, self._order, self._planned, len(self._traced))
        self._past.append(now)

    def now(self):
        """The dict from the variables, ascending, to their values now."""
        return dict(zip(self._program.variables(), self._values))

    def put(self, name, value):
        """Gives an input a value now."""
        _check_put(self._program, name, value)
        self._remember()
        self._values = _with_put(self._program, self._values, name, value)

    def run(self):
        """Plays the moment and returns the run."""
        run, values = _moment_played(self._program, self._order, self._values, self._settled)
        self._remember()
        self._settle(values, [(self._moment, values)] if run else [])
        return run

    def _settle(self, values, traced):
        """Takes the values at the end of a run, and rows of the trace."""
        self._values = values
        self._settled = values
        self._traced.extend(traced)

    def plan(self, moment, name, value):
        """Has an input put at a later moment."""
        if not is_number(moment) or moment <= self._moment:
            raise NoPlan(moment)
        _check_put(self._program, name, value)
        self._remember()
        ahead = [row for row in self._planned if row[0] <= moment]
        behind = [row for row in self._planned if row[0] > moment]
        self._planned = (*ahead, (moment, name, value), *behind)

    def go(self, moment):
        """Runs this moment and all planned ones up to a moment, which it then has."""
        if not is_number(moment) or moment < self._moment:
            raise NoPlan(moment)
        puts = {self._moment: []}
        for at, name, value in self._planned:
            if at <= moment:
                puts.setdefault(at, []).append((name, value))
        values, traced = self._gone_through(puts)
        self._remember()
        self._settle(values, traced)
        self._moment = moment
        self._planned = tuple([row for row in self._planned if row[0] > moment])

    def _gone_through(self, puts):
        """The pair (values, rows of the trace) behind the moments of a dict to their puts."""
        values, settled = self._values, self._settled
        traced = []
        for moment in puts:
            for name, value in puts[moment]:
                values = _with_put(self._program, values, name, value)
            run, values = _moment_played(self._program, self._order, values, settled)
            settled = values
            if run:
                traced.append((moment, values))
        return values, traced

    def planned(self):
        """The list of the tuples (moment, name, value) to come, by moments, then as they were planned."""
        return list(self._planned)

    def trace(self):
        """The list of the tuples (moment, values), one for each run that made a move."""
        return list(self._traced)

    def undo(self):
        """Takes the last deed back."""
        if not self._past:
            raise NothingBack(0)
        self._values, self._settled, self._moment, self._order, self._planned, many = self._past.pop()
        self._traced = self._traced[:many]

    def twin(self):
        """A simulator that tells the same, and goes on by itself."""
        simulator = Simulator(self._program, self._values, order=self._order)
        simulator._settled = self._settled
        simulator._moment = self._moment
        simulator._planned = self._planned
        simulator._traced = list(self._traced)
        simulator._past = list(self._past)
        return simulator

    def trial(self):
        """What is used with "with" to do what is taken back."""
        return SimulatorTrial(self)

    def trying(self, visitor, *, kept=False):
        """What a function of the simulator returns within a trial."""
        trial = SimulatorTrial(self)
        with trial as simulator:
            told = visitor(simulator)
            if kept is True:
                trial.keep()
        return told


def _trace_by(program, values, puts, order):
    """The trace of a simulator by one order."""
    simulator = Simulator(program, values, order=order)
    for moment, name, value in puts:
        if is_number(moment) and moment == 0:
            simulator.put(name, value)
        else:
            simulator.plan(moment, name, value)
    simulator.go(max([moment for moment, _, _ in puts], default=0))
    return simulator.trace()


def traces(program, values, puts, orders):
    """The list of the traces, one for each order, of a simulator that goes through some puts."""
    return [_trace_by(program, values, puts, order) for order in orders]
