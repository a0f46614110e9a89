"""Programs: processes that share variables, some of which are inputs."""

from tiedsteps.errors import NoName, NoPlace, NoProgram
from tiedsteps.plain import are_unlike, are_unlike_words, ascending, is_number, is_row, is_short_row
from tiedsteps.processes import Process

MOST_PROCESSES = 5
MOST_INPUTS = 3
MOST_VARIABLES = 5
MOST_CONSTANTS = 2
MOST_AT_ONCE = 8


def _are_processes(values):
    """Whether any value is a list or tuple of one to five processes."""
    return is_short_row(values, MOST_PROCESSES) and all([isinstance(value, Process) for value in values])


def _are_inputs(values, processes):
    """Whether any value is a list or tuple of inputs that the processes may have."""
    if not are_unlike_words(values, MOST_INPUTS):
        return False
    return not any([name in process.writes() for name in values for process in processes])


def _variables_of(processes, inputs):
    """The inputs and all variables of the processes, ascending."""
    words = [word for process in processes for word in process.waits() + process.reads() + process.writes()]
    return ascending(words + list(inputs))


def _constants_of(processes):
    """All constants of the processes, ascending."""
    return ascending([number for process in processes for number in process.constants()])


def _places_of(processes):
    """The places of all deeds at once, in order."""
    return [
        (process.name, index)
        for process in processes
        for index, deed in enumerate(process.deeds())
        if not deed.late
    ]


def _wrong_part(processes, inputs):
    """The first part that is not as a program has it, None if there is none."""
    if not _are_processes(processes):
        return "processes"
    if not are_unlike([process.name for process in processes]):
        return "names"
    if not _are_inputs(inputs, processes):
        return "inputs"
    if len(_variables_of(processes, inputs)) > MOST_VARIABLES:
        return "variables"
    if len(_constants_of(processes)) > MOST_CONSTANTS:
        return "constants"
    if len(_places_of(processes)) > MOST_AT_ONCE:
        return "deeds"
    return None


def _is_place(value, places):
    """Whether any value is one of the places; a truth, though equal to a number, is no index."""
    if not isinstance(value, tuple) or len(value) != 2:
        return False
    name, index = value
    return isinstance(name, str) and is_number(index) and (name, index) in places


def _with_delays(process, places):
    """The process with those of its deeds that stand at the places at the end."""
    indices = [index for name, index in places if name == process.name]
    return process.delayed(*indices)


class Program:
    """Processes in their order, and inputs; it never changes."""

    def __init__(self, processes, inputs):
        wrong = _wrong_part(processes, inputs)
        if wrong is not None:
            raise NoProgram(wrong)
        self._processes = list(processes)
        self._names = [process.name for process in processes]
        self._by_name = {process.name: process for process in processes}
        self._inputs = list(inputs)
        self._variables = _variables_of(processes, inputs)
        self._constants = _constants_of(processes)
        self._places = _places_of(processes)

    def __eq__(self, other):
        if not isinstance(other, Program):
            return False
        return self._processes == other._processes and self._inputs == other._inputs

    def __len__(self):
        return len(self._processes)

    def __iter__(self):
        return iter(self._names)

    def __getitem__(self, name):
        if name not in self:
            raise NoName(name)
        return self._by_name[name]

    def __contains__(self, value):
        return isinstance(value, str) and value in self._names

    def __or__(self, other):
        if not isinstance(other, Program):
            return NotImplemented
        added = [name for name in other._inputs if name not in self._inputs]
        return Program(self._processes + other._processes, self._inputs + added)

    def names(self):
        """The names of the processes, in order."""
        return list(self._names)

    def listed(self):
        """What it is iterated over: the names of the processes."""
        return list(self._names)

    def inputs(self):
        """The inputs, as they were given."""
        return list(self._inputs)

    def variables(self):
        """The inputs and all variables of the processes, ascending."""
        return list(self._variables)

    def constants(self):
        """The constants of all terms, ascending."""
        return list(self._constants)

    def without(self, name):
        """The program without a process."""
        if name not in self:
            raise NoName(name)
        return Program([process for process in self._processes if process.name != name], self._inputs)

    def replaced(self, process):
        """The program with a process in the place of that of its name."""
        if not isinstance(process, Process) or process.name not in self:
            raise NoName(process)
        name = process.name
        return Program([process if held.name == name else held for held in self._processes], self._inputs)

    def places(self):
        """The places of all deeds at once, in order."""
        return list(self._places)

    def delayed(self, places):
        """The program with the deeds at these places at the end."""
        if not is_row(places):
            raise NoPlace(None)
        for place in places:
            if not _is_place(place, self._places):
                raise NoPlace(place)
        return Program([_with_delays(process, places) for process in self._processes], self._inputs)
