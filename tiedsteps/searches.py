"""Searches among all states that runs from a state come to."""

from tiedsteps.graphs import Graph, Web, check_most
from tiedsteps.players import Player
from tiedsteps.rules import is_state


def _graph(program, state, most):
    """The graph of all states that runs from a state come to, so that TooMany is told ahead of all else."""
    check_most(most)
    return Graph(Web(Player(program)), state, most)


def all_states(program, state, *, most=2000):
    """The list of all states that runs come to, as they are met."""
    return _graph(program, state, most).states()


def ends(program, state, *, most=2000):
    """The list of the unlike values of all ends, ascending."""
    return _graph(program, state, most).end_values()


def to_end(program, state, *, most=2000):
    """A run with the fewest moves to an end, or None."""
    return _graph(program, state, most).run_to_end()


def ring(program, state, *, most=2000):
    """A pair of runs, to a state and from there back to it; None if every run ends."""
    return _graph(program, state, most).ring()


def longest(program, state, *, most=2000):
    """How many moves the longest run has, None if there is a ring."""
    return _graph(program, state, most).most_moves()


def parting(program, state, *, most=2000):
    """A tuple of two runs to ends with unlike values, or None."""
    return _graph(program, state, most).parting()


def way_to(program, state, goal, *, most=2000):
    """A run with the fewest moves to a state, None where any value is none that runs come to."""
    graph = _graph(program, state, most)
    # What is equal to a state need not be one: a truth is no number of values and no place.
    return graph.run_to(goal) if is_state(program, goal) else None
