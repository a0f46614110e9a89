"""Papers: what shows that all runs end in one way, or that they do not, to whoever looks at it."""

from tiedsteps.errors import NoFault, NoNote, NoStart
from tiedsteps.graphs import Graph, Web, check_most
from tiedsteps.notes import read_program, write_program
from tiedsteps.plain import is_number
from tiedsteps.players import Player
from tiedsteps.rules import is_start, is_state, start_state
from tiedsteps.verdicts import PARTS, RINGS, first_fault, looked, start_graphs, starts

SOLE = "sole"


def _two_each(row):
    """The list of the pairs of the items of a row, one ahead of the other."""
    return [(one, other) for at, one in enumerate(row) for other in row[at + 1:]]


def _walk(web, number):
    """The pair of the numbers to which first moves lead from a state up to an end, and these moves."""
    numbers, run = [number], []
    while web.ahead(number):
        move, number = web.ahead(number)[0]
        numbers.append(number)
        run.append(move)
    return numbers, run


def _join(web, left, right):
    """The two runs by first moves to the first state to which both lead.

    There is one where all runs end in one end; mostly it is near, since two
    processes that commute lead to it at once.
    """
    lefts, run = _walk(web, left)
    rights, second = _walk(web, right)
    many = 0
    while rights[many] not in lefts:
        many += 1
    return run[:lefts.index(rights[many])], second[:many]


def _joins(web, number):
    """The joins of all two moves of a state."""
    told = []
    for (one, left), (other, right) in _two_each(web.ahead(number)):
        run, second = _join(web, left, right)
        told.append((one, other, run, second))
    return told


def _paper_of_graph(graph):
    """The start paper of a start with this graph, which has no fault."""
    web = graph.web()
    return [(web.state_of(number), web.length_of(number), _joins(web, number)) for number in graph.numbers()]


def start_paper(program, start, *, most=2000):
    """The list of the rows (state, number, joins) that shows that all runs from a start end in one way."""
    check_most(most)
    if not is_start(program, start):
        raise NoStart(start)
    graph = Graph(Web(Player(program)), start_state(program, *start), most)
    if len(graph.end_values()) > 1:
        raise NoFault(PARTS)
    if graph.has_ring():
        raise NoFault(RINGS)
    return _paper_of_graph(graph)


def _is_join(player, value, one, other):
    """Whether any value joins two moves, each a pair (move, state behind it)."""
    if not isinstance(value, tuple) or len(value) != 4:
        return False
    if not all([isinstance(move, str) for move in value[:2]]) or value[:2] != (one[0], other[0]):
        return False
    left, right = player.behind(one[1], value[2]), player.behind(other[1], value[3])
    return left is not None and left == right


def _are_joins(player, values, ahead):
    """Whether any value is the list of the joins of all two moves ahead of a state."""
    pairs = _two_each(ahead)
    if not isinstance(values, list) or len(values) != len(pairs):
        return False
    return all([_is_join(player, value, one, other) for value, (one, other) in zip(values, pairs)])


def _numbers_in(program, rows):
    """The dict from the states of rows to their numbers, None if any value is no list of rows of unlike states."""
    if not isinstance(rows, list):
        return None
    numbers = {}
    for row in rows:
        if not isinstance(row, tuple) or len(row) != 3 or not is_state(program, row[0]) or not is_number(row[1]):
            return None
        numbers[row[0]] = row[1]
    return numbers if len(numbers) == len(rows) else None


def _shows_end(program, player, start, rows):
    """As is_start_paper, of what is known to be a start."""
    numbers = _numbers_in(program, rows)
    if numbers is None or start_state(program, *start) not in numbers:
        return False
    for state, number, joins in rows:
        ahead = player.ahead(state)
        if not all([behind in numbers and numbers[behind] < number for _, behind in ahead]):
            return False
        if not _are_joins(player, joins, ahead):
            return False
    return True


def is_start_paper(program, start, rows):
    """Whether any value is a start paper of a start."""
    if not is_start(program, start):
        raise NoStart(start)
    return _shows_end(program, Player(program), start, rows)


def paper_of(program, *, most=2000):
    """A paper that shows that a program is sole, or its first fault."""
    shown, _ = looked(program, most)
    fault = first_fault(shown)
    if fault is not None:
        return (fault, write_program(program), *shown[fault])
    return SOLE, write_program(program), [_paper_of_graph(graph) for _, graph in start_graphs(program, most)]


def _are_start_papers(program, papers):
    """Whether any value is the list of start papers of all starts of a program, in order."""
    rows = list(starts(program))
    if not isinstance(papers, list) or len(papers) != len(rows):
        return False
    player = Player(program)
    return all([_shows_end(program, player, start, paper) for start, paper in zip(rows, papers)])


def _are_parting(program, state, one, other):
    """Whether any two values are runs from a state to ends with unlike values."""
    player = Player(program)
    left, right = player.behind(state, one), player.behind(state, other)
    if left is None or right is None or player.ahead(left) or player.ahead(right):
        return False
    return left[0] != right[0]


def _is_ring(program, state, run, circle):
    """Whether any two values are a ring from a state."""
    player = Player(program)
    first = player.behind(state, run)
    return first is not None and player.behind(first, circle) == first and len(circle) > 0


def _program_in(note):
    """The program of a note, None if any value is none."""
    try:
        return read_program(note)
    except NoNote:
        return None


def accepts(paper):
    """Whether any value is a paper that is right."""
    if not isinstance(paper, tuple) or len(paper) not in (3, 5) or not isinstance(paper[0], str):
        return False
    program = _program_in(paper[1])
    if program is None:
        return False
    if len(paper) == 3:
        return paper[0] == SOLE and _are_start_papers(program, paper[2])
    fault, _, start, run, second = paper
    if fault not in (PARTS, RINGS) or not is_start(program, start):
        return False
    state = start_state(program, *start)
    if fault == PARTS:
        return _are_parting(program, state, run, second)
    return _is_ring(program, state, run, second)
