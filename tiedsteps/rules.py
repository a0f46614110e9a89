"""The rules: states of starts, the moves that are possible in a state, and what they lead to.

A state is a tuple (values, awake, later): the values in the order of the
variables, the places of the processes that are awake, and the pairs (place of
a variable, value) that are written at the end.
"""

from tiedsteps.errors import NoMove, NoName, NoStart
from tiedsteps.plain import are_numbers, are_unlike, ascending, is_index, is_number, is_short_row
from tiedsteps.players import Player, possible


def are_values(program, values):
    """Whether any value is a list or tuple of a number for each variable."""
    return are_numbers(values, len(program.variables()))


def are_changed(program, changed):
    """Whether any value is a list or tuple of one or more unlike inputs."""
    inputs = program.inputs()
    if not is_short_row(changed, len(inputs)):
        return False
    return all([isinstance(name, str) and name in inputs for name in changed]) and are_unlike(changed)


def is_start(program, value):
    """Whether any value is a start: a tuple of a tuple of values and an ascending one of inputs."""
    if not isinstance(value, tuple) or len(value) != 2:
        return False
    values, changed = value
    if not isinstance(values, tuple) or not isinstance(changed, tuple):
        return False
    return are_values(program, values) and are_changed(program, changed) and list(changed) == sorted(changed)


def _are_places(value, many):
    """Whether any value is an ascending tuple of unlike numbers below so many."""
    if not isinstance(value, tuple) or not all([is_index(place, many) for place in value]):
        return False
    return list(value) == ascending(value)


def _is_later(program, value):
    """Whether any value is a tuple of pairs (place, value), ascending, at most one for each variable."""
    if not isinstance(value, tuple) or not all([isinstance(pair, tuple) and len(pair) == 2 for pair in value]):
        return False
    places = tuple([place for place, _ in value])
    return _are_places(places, len(program.variables())) and all([is_number(number) for _, number in value])


def is_state(program, value):
    """Whether any value is a tuple that has the form of a state."""
    if not isinstance(value, tuple) or len(value) != 3:
        return False
    values, awake, later = value
    if not isinstance(values, tuple) or not are_values(program, values):
        return False
    return _are_places(awake, len(program)) and _is_later(program, later)


def is_order(program, value):
    """Whether any value is a list or tuple of all names, each once."""
    names = program.names()
    if not is_short_row(value, len(names)) or not all([isinstance(name, str) for name in value]):
        return False
    return sorted(value) == sorted(names)


def check_names(program, names):
    """Raises NoName with the first of some values that is no name of a process."""
    for name in names:
        if name not in program:
            raise NoName(name)


def start_state(program, values, changed):
    """The state of a start."""
    if not are_values(program, values):
        raise NoStart(values)
    if not are_changed(program, changed):
        raise NoStart(changed)
    awake = [
        place
        for place, name in enumerate(program.names())
        if any([variable in changed for variable in program[name].waits()])
    ]
    return tuple(values), tuple(awake), ()


def moves(program, state):
    """The list of the possible moves, in order."""
    return possible(program.names(), state)


def is_move(program, state, value):
    """Whether any value is a possible move."""
    return isinstance(value, str) and value in moves(program, state)


def step(program, state, move):
    """The state behind a move."""
    if not is_move(program, state, move):
        raise NoMove(None)
    return Player(program).after(state, move)


def is_end(program, state):
    """Whether no move is possible."""
    return len(moves(program, state)) == 0


def values_in(program, state):
    """The dict from the variables, ascending, to their values."""
    return dict(zip(program.variables(), state[0]))
