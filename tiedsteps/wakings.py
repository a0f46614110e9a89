"""Wakings: which processes may wake which, and the numbers that fall with each move."""

from tiedsteps.plain import ascending
from tiedsteps.rules import check_names


def _written(process, late):
    """The variables that a process writes at the end, or those that it writes at once."""
    return ascending([deed.variable for deed in process.deeds() if deed.late == late])


def _waiting(program, variables):
    """The names of the processes that wait for one of some variables, each once, in order."""
    return [name for name in program.names() if any([variable in variables for variable in program[name].waits()])]


def _woken_at_once(program, name):
    """The names of those that a process may wake by deeds at once, in order."""
    return [other for other in _waiting(program, _written(program[name], False)) if other != name]


def _woken(program, name):
    """The names of those that a process may wake, in order."""
    woken = _woken_at_once(program, name) + _waiting(program, _written(program[name], True))
    return [other for other in program.names() if other in woken]


def wakes(program, one, other):
    """Whether one process may wake another one."""
    check_names(program, [one, other])
    return other in _woken(program, one)


def wakings(program):
    """The list of all pairs (one, other) of which one may wake the other."""
    return [(one, other) for one in program.names() for other in _woken(program, one)]


def circle(program):
    """A shortest list of names, each of which may wake the next one, the last one the first; or None."""
    woken = {name: _woken(program, name) for name in program.names()}
    rows = [[name] for name in program.names()]
    # Rows that grow for ever would have come round before.
    while rows:
        for row in rows:
            if row[0] in woken[row[-1]]:
                return row
        rows = [[*row, name] for row in rows for name in woken[row[-1]]]
    return None


def levels(program):
    """The list of lists of names, each behind all that it may wake; None if there is a circle."""
    told = []
    left = program.names()
    while left:
        level = [name for name in left if not any([other in left for other in _woken(program, name)])]
        if not level:
            return None
        told.append(level)
        left = [name for name in left if name not in level]
    return told


def _late_fall(program, variable, known):
    """How much a write at the end of a variable weighs, where the weights of all that wait for it are known."""
    return 1 + sum([known[name] for name in _waiting(program, [variable])])


def weights(program):
    """The dict from the names, in order, to their weights; None if there is a circle."""
    rows = levels(program)
    if rows is None:
        return None
    known = {}
    for name in [held for level in rows for held in level]:
        at_once = sum([known[other] for other in _woken_at_once(program, name)])
        late = sum([_late_fall(program, variable, known) for variable in _written(program[name], True)])
        known[name] = 1 + at_once + late
    return {name: known[name] for name in program.names()}


def falling(program, state):
    """The falling number of a state, None if there is a circle."""
    known = weights(program)
    if known is None:
        return None
    _, awake, later = state
    names, variables = program.names(), program.variables()
    pairs = [_late_fall(program, variables[place], known) for place, _ in later]
    return sum([known[names[place]] for place in awake]) + sum(pairs)
