"""Verdicts: whether from each start every run ends, and all in the same values."""

from tiedsteps.errors import NoFault
from tiedsteps.graphs import Graph, Web, check_most
from tiedsteps.patterns import patterns, values_of
from tiedsteps.players import Player
from tiedsteps.rules import start_state

PARTS = "parts"
RINGS = "rings"
MOST_KEPT = 100000


def all_changed(program):
    """All ascending tuples of one or more inputs, shorter ones first, those of one length ascending."""
    rows = [()]
    for name in sorted(program.inputs()):
        rows = rows + [(*row, name) for row in rows]
    return sorted([row for row in rows if row], key=lambda row: (len(row), row))


def starts(program):
    """A generator of all starts, in order."""
    rows = all_changed(program)
    for row in patterns(program):
        values = values_of(program, row)
        for changed in rows:
            yield values, changed


def start_graphs(program, most):
    """A generator of the pairs (start, its graph) of all starts, in order; raises as all that take most."""
    check_most(most)
    player = Player(program)
    web = Web(player)
    graphs = {}
    for start in starts(program):
        state = start_state(program, *start)
        # Changes of other inputs often wake the same processes, so that these starts have one graph.
        if state not in graphs:
            # What is kept for later starts is not to grow without bounds.
            web = web if web.size() < MOST_KEPT else Web(player)
            graphs = {key: graphs[key] for key in graphs if key[0] == state[0]}
            graphs[state] = Graph(web, state, most)
        yield start, graphs[state]


def _show(shown, start, graph):
    """Puts into a dict what a start is the first one to show."""
    if PARTS not in shown and len(graph.end_values()) > 1:
        shown[PARTS] = (start, *graph.parting())
    if RINGS not in shown and graph.has_ring():
        shown[RINGS] = (start, *graph.ring())


def looked(program, most):
    """What all starts show: a pair of a dict and a list.

    The dict has for each fault of the program what fault_of tells; the list
    has for each start the most moves of a run, None with a ring.
    """
    shown = {}
    lengths = []
    for start, graph in start_graphs(program, most):
        lengths.append(graph.most_moves())
        _show(shown, start, graph)
    return shown, lengths


def _faults_in(shown):
    """The faults of which some start shows one, in order."""
    return [fault for fault in (PARTS, RINGS) if fault in shown]


def first_fault(shown):
    """The first of the faults of which some start shows one, None if there is none."""
    told = _faults_in(shown)
    return told[0] if told else None


def faults(program, *, most=2000):
    """The list of the faults of a program."""
    shown, _ = looked(program, most)
    return _faults_in(shown)


def is_sole(program, *, most=2000):
    """Whether a program has no fault."""
    return faults(program, most=most) == []


def fault_of(program, fault, *, most=2000):
    """A tuple (start, run, second) of the first start with a fault: two runs to unlike ends, or a ring."""
    shown, _ = looked(program, most)
    if not isinstance(fault, str) or fault not in shown:
        raise NoFault(fault)
    return shown[fault]


def end_of(program, values, changed, *, most=2000):
    """The values in which all runs from a start end, None if there are several, or a ring."""
    check_most(most)
    graph = Graph(Web(Player(program)), start_state(program, values, changed), most)
    found = graph.end_values()
    return found[0] if len(found) == 1 and not graph.has_ring() else None


def _word_of(shown):
    """The word for what all starts show."""
    if not shown:
        return "one"
    return RINGS if RINGS in shown else "several"


class Verdict:
    """What all starts of a program show."""

    def __init__(self, program, *, most=2000):
        shown, lengths = looked(program, most)
        self._program = program
        self._faults = _faults_in(shown)
        self._longest = None if None in lengths else max(lengths)
        self._word = _word_of(shown)
        # Plain and no property: starts is the name of a generator, and no method may have that.
        self.starts = len(lengths)

    def __eq__(self, other):
        return isinstance(other, Verdict) and self._program == other._program

    @property
    def sole(self):
        """Whether the program has no fault."""
        return len(self._faults) == 0

    @property
    def longest(self):
        """The most moves of a run from any start, None with a ring."""
        return self._longest

    @property
    def word(self):
        """How many ends the starts have: "one", "several", or "rings" if one has a ring."""
        return self._word

    def faults(self):
        """The list of the faults of the program."""
        return list(self._faults)
