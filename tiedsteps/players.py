"""A player makes the moves of one program."""

from tiedsteps.plain import ascending, is_row
from tiedsteps.processes import TURN


def possible(names, state):
    """The moves that are possible in a state of processes with these names, in order."""
    _, awake, later = state
    if awake:
        return [names[place] for place in awake]
    return [TURN] if later else []


def _with_pairs(later, pairs):
    """What is later with some pairs in the place of earlier ones for their variables."""
    if not pairs:
        return later
    held = dict(later)
    for spot, value in pairs:
        held[spot] = value
    return tuple(sorted(held.items()))


class Player:
    """Makes the moves of a program, from any of its states.

    A search makes the same deeds from the same values again and again, so what
    they do is kept.
    """

    def __init__(self, program):
        processes = [program[name] for name in program.names()]
        self._names = program.names()
        self._places = {name: place for place, name in enumerate(self._names)}
        self._variables = program.variables()
        self._spots = {variable: spot for spot, variable in enumerate(self._variables)}
        self._deeds = [process.deeds() for process in processes]
        self._waiting = [
            [place for place, process in enumerate(processes) if variable in process.waits()]
            for variable in self._variables
        ]
        # What the deeds of a process do to some values, and who is awake behind it: both are asked for again and again.
        self._done = {}
        self._awake = {}

    def ahead(self, state):
        """The list of the pairs (move, state behind it), in order."""
        values, awake, later = state
        if awake:
            return [(self._names[place], self._behind_process(values, awake, later, place)) for place in awake]
        return [(TURN, self._behind_turn(values, later))] if later else []

    def after(self, state, move):
        """The state behind a possible move."""
        values, awake, later = state
        if move == TURN:
            return self._behind_turn(values, later)
        return self._behind_process(values, awake, later, self._places[move])

    def behind(self, state, run):
        """The state behind a run from a state, None if any value is no such run."""
        if not is_row(run):
            return None
        for move in run:
            if not isinstance(move, str) or move not in possible(self._names, state):
                return None
            state = self.after(state, move)
        return state

    def run_by(self, state, order):
        """The pair (run, state behind it) that an order makes, up to an end or to a state that comes twice."""
        run = []
        met = {}
        while state not in met and possible(self._names, state):
            met[state] = True
            ahead = possible(self._names, state)
            move = [name for name in [*order, TURN] if name in ahead][0]
            state = self.after(state, move)
            run.append(move)
        return run, state

    def _behind_turn(self, values, later):
        """The state behind the writes at the end, all together."""
        behind = list(values)
        woken = []
        for spot, value in later:
            if value != values[spot]:
                behind[spot] = value
                woken.extend(self._waiting[spot])
        return tuple(behind), tuple(ascending(woken)), ()

    def _behind_process(self, values, awake, later, place):
        """The state behind the deeds of a process."""
        done = self._done.get((place, values))
        if done is None:
            done = self._new_deeds_done(place, values)
            self._done[(place, values)] = done
        behind, woken, pairs = done
        return behind, self._awake_behind(awake, place, woken), _with_pairs(later, pairs)

    def _awake_behind(self, awake, place, woken):
        """Who is awake behind the move of a process that wakes others."""
        told = self._awake.get((awake, place, woken))
        if told is None:
            told = tuple(ascending([other for other in awake if other != place] + list(woken)))
            self._awake[(awake, place, woken)] = told
        return told

    def _new_deeds_done(self, place, values):
        """What a process does: the values behind it, the others that it wakes, its pairs for later."""
        now = dict(zip(self._variables, values))
        woken = []
        pairs = []
        for deed in self._deeds[place]:
            variable = deed.variable
            value = deed.term.worth(now)
            if deed.late:
                pairs.append((self._spots[variable], value))
            elif value != now[variable]:
                now[variable] = value
                woken.extend(self._waiting[self._spots[variable]])
        behind = tuple([now[variable] for variable in self._variables])
        return behind, tuple(ascending([other for other in woken if other != place])), pairs
