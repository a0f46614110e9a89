"""Notes: programs, starts and runs, written in rows and read back."""

from tiedsteps.errors import NoDeed, NoNote, NoProcess, NoProgram
from tiedsteps.plain import is_row, is_word
from tiedsteps.processes import Deed, Process
from tiedsteps.programs import Program
from tiedsteps.rules import is_start

DIGITS = "0123456789"


def text_of(rows):
    """The text of rows, each closed by a line feed."""
    return "".join([row + "\n" for row in rows])


def _process_rows(process):
    """The rows of a process and its deeds."""
    head = " ".join(["process", process.name, "waits", *process.waits()])
    return [head, *[str(deed) for deed in process.deeds()]]


def write_program(program):
    """The note of a program."""
    if not isinstance(program, Program):
        raise NoNote(None)
    rows = [" ".join(["inputs", *program.inputs()])]
    for name in program.names():
        rows.extend(_process_rows(program[name]))
    return text_of(rows)


def write_start(program, start):
    """The note of a start of a program."""
    if not isinstance(program, Program) or not is_start(program, start):
        raise NoNote(None)
    values, changed = start
    return text_of([" ".join(["start", *[str(value) for value in values], "changed", *changed])])


def write_run(run):
    """The note of a run."""
    if not is_row(run) or not all([is_word(move) for move in run]):
        raise NoNote(None)
    return text_of(run)


def _rows_of(text):
    """The rows of a text, without their line feeds."""
    if not isinstance(text, str) or (text != "" and not text.endswith("\n")):
        raise NoNote(None)
    return text.split("\n")[:-1]


def _words_behind(head, words):
    """The words behind a first one, None if they are no row of it and one or more words."""
    if words[0] != head or len(words) < 2 or not all([is_word(word) for word in words[1:]]):
        return None
    return words[1:]


def _inputs_in(row):
    """The names in a row of inputs, None if it is none."""
    return _words_behind("inputs", row.split(" "))


def _head_in(row):
    """The pair (name, waits) in the first row of a process, None if it is none."""
    words = _words_behind("process", row.split(" "))
    if words is None:
        return None
    waits = _words_behind("waits", words[1:]) if words[1:] else None
    return None if waits is None else (words[0], waits)


def _deed_in(row):
    """The deed in a row, None if it is none."""
    try:
        return Deed.of(row)
    except NoDeed:
        return None


def row_kind(row):
    """What a row of the note of a program is: "inputs", "process" or "deed"; None if it is none."""
    if _deed_in(row) is not None:
        return "deed"
    if _head_in(row) is not None:
        return "process"
    return None if _inputs_in(row) is None else "inputs"


def _parts_in(rows):
    """The list of the parts (name, waits, deeds) of the processes in the rows behind that of the inputs."""
    parts = []
    for line, row in enumerate(rows[1:], start=2):
        head, deed = _head_in(row), _deed_in(row)
        if deed is not None and parts:
            parts[-1][2].append(deed)
        elif head is not None and (not parts or parts[-1][2]):
            parts.append((head[0], head[1], []))
        else:
            raise NoNote(line)
    if not parts or not parts[-1][2]:
        raise NoNote(len(rows) + 1)
    return parts


def read_program(text):
    """The program of a note."""
    rows = _rows_of(text)
    inputs = _inputs_in(rows[0]) if rows else None
    if inputs is None:
        raise NoNote(1)
    parts = _parts_in(rows)
    try:
        return Program([Process(name, waits, deeds) for name, waits, deeds in parts], inputs)
    except (NoProcess, NoProgram):
        raise NoNote(0) from None


def is_numeral(word):
    """Whether a word is a number in decimal, without leading zeros, below 0 with a minus ahead."""
    digits = word[1:] if word.startswith("-") else word
    if digits == "" or not all([sign in DIGITS for sign in digits]):
        return False
    return word == "0" or not digits.startswith("0")


def _start_in(row):
    """The start in a row, of any program; None if it is none."""
    words = row.split(" ")
    end = 1
    while end < len(words) and is_numeral(words[end]):
        end += 1
    changed = _words_behind("changed", words[end:]) if end < len(words) else None
    if words[0] != "start" or end == 1 or changed is None:
        return None
    return tuple([int(word) for word in words[1:end]]), tuple(changed)


def read_start(program, text):
    """The start of a program in a note."""
    rows = _rows_of(text)
    start = _start_in(rows[0]) if rows else None
    if start is None:
        raise NoNote(1)
    if len(rows) > 1:
        raise NoNote(2)
    if not is_start(program, start):
        raise NoNote(0)
    return start


def read_run(text):
    """The run in a note."""
    rows = _rows_of(text)
    for line, row in enumerate(rows, start=1):
        if not is_word(row):
            raise NoNote(line)
    return rows
