"""A console, which answers lines of text."""

from tiedsteps.commuting import clashes
from tiedsteps.delays import Delays
from tiedsteps.errors import NeverEnds, NoName, NoNote, NoOrder, NoStart, NothingBack, TooMany
from tiedsteps.live import Simulator
from tiedsteps.notes import is_numeral, read_program, row_kind, text_of
from tiedsteps.plain import is_word
from tiedsteps.verdicts import Verdict, faults, starts
from tiedsteps.wakings import circle

OK = "ok"
ERROR = "error"
UNKNOWN = "unknown"
NONE = "none"
NEVER = "never"
OPEN = "open"
NOTHING = "nothing"
# What kinds of rows may stand behind a row of a note; the first one stands behind none.
BEHIND = {None: ("inputs",), "inputs": ("process",), "process": ("deed",), "deed": ("process", "deed")}


def _joined(parts):
    """The text of the parts of a list, or "none" if there are none, or no list."""
    return " ".join([str(part) for part in parts]) if parts else NONE


def _number_or_none(value):
    """The text of a number, or "none"."""
    return NONE if value is None else str(value)


def _look_faults(program):
    return _joined(faults(program))


def _look_word(program):
    return Verdict(program).word


def _look_starts(program):
    return str(len(list(starts(program))))


def _look_longest(program):
    return _number_or_none(Verdict(program).longest)


def _look_delays(program):
    return _number_or_none(Delays(program).fewest)


def _look_circle(program):
    return _joined(circle(program))


def _look_clashes(program):
    return _joined([f"{one}-{other}" for one, other in clashes(program)])


def _do_put(simulator, words):
    try:
        simulator.put(words[0], int(words[1]))
    except NoName:
        return ERROR
    return OK


def _do_order(simulator, words):
    try:
        simulator.order = words
    except NoOrder:
        return ERROR
    return OK


def _do_go(simulator, _):
    try:
        return str(len(simulator.run()))
    except NeverEnds:
        return NEVER


def _do_wait(simulator, words):
    try:
        simulator.go(simulator.moment + int(words[0]))
    except NeverEnds:
        return NEVER
    return OK


def _do_values(simulator, _):
    return _joined(list(simulator.now().values()))


def _do_moment(simulator, _):
    return str(simulator.moment)


def _do_undo(simulator, _):
    try:
        simulator.undo()
    except NothingBack:
        return NOTHING
    return OK


# What is asked of a program.
LOOKS = {
    "faults": _look_faults, "word": _look_word, "starts": _look_starts, "longest": _look_longest,
    "delays": _look_delays, "circle": _look_circle, "clashes": _look_clashes,
}
# What is asked of a simulator, and done with it.
DOES = {
    "put": _do_put, "order": _do_order, "go": _do_go, "wait": _do_wait, "values": _do_values, "moment": _do_moment,
    "undo": _do_undo,
}
# Lines of one word.
ALONE = (
    "clear", "faults", "word", "starts", "longest", "delays", "circle", "clashes", "go", "values", "moment", "undo",
)


def _is_line(words):
    """Whether words have the form of a line that is no row of a note."""
    head, rest = words[0], words[1:]
    if head == "sim":
        return len(rest) > 0 and all([is_numeral(word) for word in rest])
    if head == "order":
        return len(rest) > 0 and all([is_word(word) for word in rest])
    if head == "put":
        return len(rest) == 2 and is_word(rest[0]) and is_numeral(rest[1])
    if head == "wait":
        return len(rest) == 1 and is_numeral(rest[0]) and not rest[0].startswith("-")
    return head in ALONE and len(rest) == 0


class Console:
    """Rows of a program, and a simulator of it, if there is one."""

    def __init__(self):
        self._rows = []
        self._simulator = None

    def run(self, line):
        """The answer to a line."""
        if not isinstance(line, str):
            raise NoNote(None)
        kind = row_kind(line)
        if kind is not None:
            return self._keep(kind, line)
        words = line.split(" ")
        if not _is_line(words):
            return UNKNOWN
        if words[0] == "clear":
            self._rows = []
            self._simulator = None
            return OK
        program = self._program()
        if program is None:
            return ERROR
        return self._answer(program, words)

    def _keep(self, kind, row):
        """Keeps a row, if it can stand behind the others."""
        last = row_kind(self._rows[-1]) if self._rows else None
        if kind not in BEHIND[last]:
            return ERROR
        self._rows.append(row)
        self._simulator = None
        return OK

    def _program(self):
        """The program of the kept rows, None if they make none."""
        try:
            return read_program(text_of(self._rows))
        except NoNote:
            return None

    def _answer(self, program, words):
        """The answer to a line that needs a program."""
        if words[0] in LOOKS:
            look = LOOKS[words[0]]
            try:
                return look(program)
            except TooMany:
                return OPEN
        if words[0] == "sim":
            return self._simulate(program, [int(word) for word in words[1:]])
        if self._simulator is None:
            return ERROR
        do = DOES[words[0]]
        return do(self._simulator, words[1:])

    def _simulate(self, program, values):
        """Takes a simulator with these values."""
        try:
            self._simulator = Simulator(program, values)
        except NoStart:
            return ERROR
        return OK
