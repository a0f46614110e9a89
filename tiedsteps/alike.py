"""Alike: whether two programs come to the same ends, and whether one may do without a process."""

from tiedsteps.errors import NoPair
from tiedsteps.graphs import check_most
from tiedsteps.patterns import all_patterns, pattern_of, values_beside
from tiedsteps.plain import ascending
from tiedsteps.programs import Program
from tiedsteps.sources import sources_of, values_from
from tiedsteps.verdicts import all_changed, start_graphs


def _are_comparable(one, other):
    """Whether two programs have the same variables and, in whatever order, the same inputs."""
    return one.variables() == other.variables() and sorted(one.inputs()) == sorted(other.inputs())


def _check_pair(one, other):
    """Raises NoPair with the first of two values that is no program, or with the second if they cannot be compared."""
    for value in (one, other):
        if not isinstance(value, Program):
            raise NoPair(value)
    if not _are_comparable(one, other):
        raise NoPair(other)


def common_starts(one, other):
    """A generator of the starts from which two programs are compared."""
    _check_pair(one, other)
    constants = ascending(one.constants() + other.constants())
    rows = all_changed(one)
    for row in all_patterns(len(one.variables()), len(constants)):
        values = values_beside(constants, row)
        for changed in rows:
            yield values, changed


class Shown:
    """What a program shows from all its starts, and so from a start with any values; it never changes."""

    def __init__(self, program, most):
        self._program = program
        # For each pattern and changed inputs the pair (sources of each end, whether there is a ring).
        self._by_case = {}
        for start, graph in start_graphs(program, most):
            values, changed = start
            rows = [sources_of(program, values, end) for end in graph.end_values()]
            self._by_case[(pattern_of(program, values), changed)] = (rows, graph.has_ring())

    def ends_from(self, start):
        """The values of all ends from a start."""
        values, changed = start
        rows, _ = self._by_case[(pattern_of(self._program, values), changed)]
        return [values_from(self._program, values, row) for row in rows]

    def has_ring_from(self, start):
        """Whether a start has a ring."""
        values, changed = start
        _, has_ring = self._by_case[(pattern_of(self._program, values), changed)]
        return has_ring


def _shown_by_both(one, other, most):
    """The pair of what two programs show."""
    _check_pair(one, other)
    return Shown(one, most), Shown(other, most)


def _difference_at(first, second, start):
    """The pair (kind, what) by which a start differs, None if it does not."""
    lefts, rights = first.ends_from(start), second.ends_from(start)
    unlike = [end for end in lefts if end not in rights] + [end for end in rights if end not in lefts]
    if unlike:
        return "end", min(unlike)
    if first.has_ring_from(start) == second.has_ring_from(start):
        return None
    return "ring", "first" if first.has_ring_from(start) else "second"


def difference(one, other, *, most=2000):
    """A tuple (start, kind, what) of the first start at which two programs differ, None if they are alike."""
    first, second = _shown_by_both(one, other, most)
    for start in common_starts(one, other):
        told = _difference_at(first, second, start)
        if told is not None:
            return (start, *told)
    return None


def alike(one, other, *, most=2000):
    """Whether two programs have from each common start the same ends, and both or neither have a ring."""
    return difference(one, other, most=most) is None


def merged(one, other, *, most=2000):
    """Whether each end that one program has from a common start is one of the other, too."""
    first, second = _shown_by_both(one, other, most)
    for start in common_starts(one, other):
        rights = second.ends_from(start)
        if not all([end in rights for end in first.ends_from(start)]):
            return False
    return True


def idle(program, name, *, most=2000):
    """Whether a program without one of its processes is alike to it."""
    if not isinstance(program, Program):
        raise NoPair(program)
    rest = program.without(name)
    check_most(most)
    return _are_comparable(program, rest) and alike(program, rest, most=most)
