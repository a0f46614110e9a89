"""Commuting: whether it matters which one of two processes goes ahead."""

from tiedsteps.benches import is_run, played
from tiedsteps.errors import NoMove, NoNumber
from tiedsteps.patterns import patterns, values_of
from tiedsteps.plain import is_index
from tiedsteps.players import Player
from tiedsteps.rules import check_names


def _behind_both(player, state, one, other):
    """The state behind one process and then another one."""
    return player.after(player.after(state, one), other)


def clash(program, one, other):
    """A tuple (values, left, right) of values for which two processes do not commute, or None."""
    check_names(program, [one, other])
    # Nobody is awake twice, so a process goes ahead of itself in no way.
    if one == other:
        return None
    awake = tuple([place for place, name in enumerate(program.names()) if name in (one, other)])
    player = Player(program)
    for row in patterns(program):
        values = values_of(program, row)
        left = _behind_both(player, (values, awake, ()), one, other)
        right = _behind_both(player, (values, awake, ()), other, one)
        if left != right:
            return values, left, right
    return None


def commute(program, one, other):
    """Whether two processes lead to the same state in either order, for all values."""
    return clash(program, one, other) is None


def clashes(program):
    """The list of the pairs of names that do not commute, in order."""
    names = program.names()
    pairs = [(one, other) for at, one in enumerate(names) for other in names[at + 1:]]
    return [(one, other) for one, other in pairs if not commute(program, one, other)]


def all_commute(program):
    """Whether every two processes commute."""
    return len(clashes(program)) == 0


def apart(program, one, other):
    """Whether neither process writes a variable that the other one reads, writes or waits for."""
    first, second = program[one], program[other]
    meeting = [variable in second for variable in first.writes()] + [variable in first for variable in second.writes()]
    return not any(meeting)


def shift(program, state, run, at):
    """The run with the moves at and at + 1 exchanged, None if that is no run to the same state."""
    if not is_run(program, state, run):
        raise NoMove(None)
    if not is_index(at, len(run) - 1):
        raise NoNumber(at)
    told = [*run[:at], run[at + 1], run[at], *run[at + 2:]]
    if not is_run(program, state, told) or played(program, state, told) != played(program, state, run):
        return None
    return told
