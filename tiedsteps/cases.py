"""Cases: what a sole program does at each start, told by where the values at its end come from."""

from tiedsteps.errors import NoFault, NoName, NoPattern, NoStart
from tiedsteps.patterns import is_pattern, pattern_of, values_of
from tiedsteps.plain import is_number
from tiedsteps.rules import are_changed, start_state
from tiedsteps.sources import sources_of, values_from
from tiedsteps.verdicts import first_fault, looked, start_graphs


def _case_of(program, start, graph):
    """The case of a start that has one end."""
    values, changed = start
    return pattern_of(program, values), changed, sources_of(program, values, graph.end_values()[0])


def _are_sources(value):
    """Whether any value is a tuple of words and numbers, so that it may be compared with sources."""
    return isinstance(value, tuple) and all([isinstance(source, str) or is_number(source) for source in value])


class Cases:
    """All cases of a sole program; it never changes."""

    def __init__(self, program, *, most=2000):
        shown, _ = looked(program, most)
        fault = first_fault(shown)
        if fault is not None:
            raise NoFault(fault)
        self._program = program
        self._shape = (program.variables(), sorted(program.inputs()), program.constants())
        self._rows = [_case_of(program, start, graph) for start, graph in start_graphs(program, most)]
        self._by_case = {(pattern, changed): sources for pattern, changed, sources in self._rows}

    def __len__(self):
        return len(self._rows)

    def __iter__(self):
        return iter(self._rows)

    def __eq__(self, other):
        return isinstance(other, Cases) and self._shape == other._shape and self._rows == other._rows

    def __contains__(self, value):
        if not isinstance(value, tuple) or len(value) != 3:
            return False
        pattern, changed, sources = value
        if not is_pattern(self._program, pattern) or not isinstance(changed, tuple) or not _are_sources(sources):
            return False
        return are_changed(self._program, changed) and self._by_case.get((pattern, changed)) == sources

    def __call__(self, values, changed):
        # The state is not needed, but what makes none raises its errors.
        start_state(self._program, values, changed)
        return values_from(self._program, values, self.sources(pattern_of(self._program, values), changed))

    def listed(self):
        """What it is iterated over: all cases, in the order of the starts."""
        return list(self._rows)

    def sources(self, pattern, changed):
        """The sources of a case."""
        if not is_pattern(self._program, pattern):
            raise NoPattern(pattern)
        if not are_changed(self._program, changed):
            raise NoStart(changed)
        return self._by_case[(pattern, tuple(sorted(changed)))]

    def _place(self, variable):
        """The place of a variable; raises NoName of any other value."""
        if not isinstance(variable, str) or variable not in self._program.variables():
            raise NoName(variable)
        return self._program.variables().index(variable)

    def copies(self, variable):
        """The list of all sources of a variable: constants, then variables, each ascending."""
        place = self._place(variable)
        found = [sources[place] for _, _, sources in self._rows]
        everything = self._program.constants() + self._program.variables()
        return [source for source in everything if source in found]

    def _values_kept(self, case):
        """For each variable whether it has at the end of a case the value that it had."""
        pattern, _, sources = case
        values = values_of(self._program, pattern)
        return [value == held for value, held in zip(values_from(self._program, values, sources), values)]

    def kept(self, variable):
        """Whether a variable has in each case at the end the value that it had."""
        place = self._place(variable)
        return all([self._values_kept(case)[place] for case in self._rows])

    def still(self):
        """The list of the cases in which every variable keeps its value."""
        return [case for case in self._rows if all(self._values_kept(case))]
