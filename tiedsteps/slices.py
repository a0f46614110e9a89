"""Slices: the processes that bear on some variables, and the groups that have nothing in common."""

from tiedsteps.commuting import apart
from tiedsteps.errors import NoName, NoPair, NoPattern
from tiedsteps.plain import is_row
from tiedsteps.programs import Program
from tiedsteps.rules import are_values, check_names


def _check_variables(program, variables):
    """Raises NoName of any value that is no list or tuple of variables of a program, with the first that is none."""
    if not is_row(variables):
        raise NoName(variables)
    for variable in variables:
        if not isinstance(variable, str) or variable not in program.variables():
            raise NoName(variable)


def _writing(program, variables):
    """The names of the processes that write one of some variables, in order."""
    return [name for name in program.names() if any([variable in variables for variable in program[name].writes()])]


def bearing(program, variables):
    """The list of the names of the processes that bear on some variables, in order."""
    _check_variables(program, variables)
    found = []
    fresh = _writing(program, variables)
    while fresh:
        found = found + fresh
        near = [variable for variable in program.variables() if any([variable in program[name] for name in fresh])]
        fresh = [name for name in _writing(program, near) if name not in found]
    return [name for name in program.names() if name in found]


def bears(program, name, variables):
    """Whether a process bears on some variables."""
    check_names(program, [name])
    return name in bearing(program, variables)


def sliced(program, variables):
    """The program of the processes that bear on some variables."""
    return Program([program[name] for name in bearing(program, variables)], program.inputs())


def cut(program, other, values):
    """The tuple of the values of those variables of a program that are variables of another one, too."""
    if not are_values(program, values):
        raise NoPattern(values)
    if not isinstance(other, Program) or not all([variable in program.variables() for variable in other.variables()]):
        raise NoPair(other)
    held = other.variables()
    return tuple([value for variable, value in zip(program.variables(), values) if variable in held])


def _group_of(program, name):
    """The names of the group of a process, in order."""
    found = []
    fresh = [name]
    while fresh:
        found = found + fresh
        near = [other for other in program.names() if not all([apart(program, one, other) for one in fresh])]
        fresh = [other for other in near if other not in found]
    return [other for other in program.names() if other in found]


def groups(program):
    """The list of the lists of the names of each group, in order."""
    rows = [_group_of(program, name) for name in program.names()]
    return [row for name, row in zip(program.names(), rows) if row[0] == name]
