"""A player makes the moves of one program."""

from tiedsteps.plain import ascending
from tiedsteps.processes import TURN


def possible(names, state):
    """The moves that are possible in a state of processes with these names, in order."""
    _, awake, later = state
    if awake:
        return [names[place] for place in awake]
    return [TURN] if later else []


def _with_pairs(later, pairs):
    """What is later with some pairs in the place of earlier ones for their variables."""
    if not pairs:
        return later
    held = dict(later)
    for spot, value in pairs:
        held[spot] = value
    return tuple(sorted(held.items()))


class Player:
    """Makes the moves of a program, from any of its states.

    A search makes the same deeds from the same values again and again, so what
    they do is kept.
    """

    def __init__(self, program):
        processes = [program[name] for name in program.names()]
        self._names = program.names()
        self._places = {name: place for place, name in enumerate(self._names)}
        self._variables = program.variables()
        self._spots = {variable: spot for spot, variable in enumerate(self._variables)}
        self._deeds = [process.deeds() for process in processes]
        self._waiting = [
            [place for place, process in enumerate(processes) if variable in process.waits()]
            for variable in self._variables
        ]
        self._done = {}

    def ahead(self, state):
        """The list of the pairs (move, state behind it), in order."""
        return [(move, self.after(state, move)) for move in possible(self._names, state)]

    def after(self, state, move):
        """The state behind a possible move."""
        if move == TURN:
            return self._behind_turn(state)
        return self._behind_process(state, self._places[move])

    def _behind_turn(self, state):
        """The state behind the writes at the end, all together."""
        values, _, later = state
        behind = list(values)
        woken = []
        for spot, value in later:
            if value != values[spot]:
                behind[spot] = value
                woken.extend(self._waiting[spot])
        return tuple(behind), tuple(ascending(woken)), ()

    def _behind_process(self, state, place):
        """The state behind the deeds of a process."""
        values, awake, later = state
        behind, woken, pairs = self._deeds_done(place, values)
        others = [other for other in awake if other != place]
        return behind, tuple(ascending(others + woken)), _with_pairs(later, pairs)

    def _deeds_done(self, place, values):
        """As _new_deeds_done, kept for the next time."""
        done = self._done.get((place, values))
        if done is None:
            done = self._new_deeds_done(place, values)
            self._done[(place, values)] = done
        return done

    def _new_deeds_done(self, place, values):
        """What a process does: the values behind it, the others that it wakes, its pairs for later."""
        now = dict(zip(self._variables, values))
        woken = []
        pairs = []
        for deed in self._deeds[place]:
            variable = deed.variable
            value = deed.term.worth(now)
            if deed.late:
                pairs.append((self._spots[variable], value))
            elif value != now[variable]:
                now[variable] = value
                woken.extend(self._waiting[self._spots[variable]])
        behind = tuple([now[variable] for variable in self._variables])
        return behind, [other for other in woken if other != place], pairs
