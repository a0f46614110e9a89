"""Deeds that write a term to a variable, and processes of such deeds."""

from tiedsteps.errors import NoDeed, NoProcess, NoTerm
from tiedsteps.plain import are_unlike_words, ascending, is_index, is_short_row, is_word
from tiedsteps.terms import Term

AT_ONCE = ":="
AT_END = "<="
# This word is the move by which all that is late is written, so no process has it.
TURN = "turn"
MOST_WAITS = 4
MOST_DEEDS = 4


class Deed:
    """The write of a term to a variable, at once or at the end; it never changes."""

    def __init__(self, variable, term, *, late=False):
        if not is_word(variable):
            raise NoDeed(variable)
        try:
            held = Term(term)
        except NoTerm:
            raise NoDeed(term) from None
        if not isinstance(late, bool):
            raise NoDeed(late)
        self._variable = variable
        self._term = held
        self._late = late
        self._text = f"{variable} {AT_END if late else AT_ONCE} {str(held)}"

    @staticmethod
    def of(text):
        """The deed of a text as "a := b" or "a <= b"."""
        words = text.split(" ") if isinstance(text, str) else []
        if len(words) != 3 or words[1] not in (AT_ONCE, AT_END):
            raise NoDeed(text)
        try:
            return Deed(words[0], words[2], late=words[1] == AT_END)
        except NoDeed:
            raise NoDeed(text) from None

    def __str__(self):
        return str(self._text)

    def __eq__(self, other):
        return isinstance(other, Deed) and self._text == other._text

    @property
    def variable(self):
        """The variable that it writes."""
        return self._variable

    @property
    def term(self):
        """The term whose value it writes."""
        return self._term

    @property
    def late(self):
        """Whether it writes at the end."""
        return self._late

    def delayed(self):
        """The deed at the end."""
        return Deed(self._variable, self._term, late=True)


def _deed_of(value):
    """The deed that a value is or is the text of, None of any other value."""
    if isinstance(value, Deed):
        return value
    try:
        return Deed.of(value)
    except NoDeed:
        return None


def _deeds_of(values):
    """The list of the deeds of a list or tuple, None if it is none of one to four deeds."""
    if not is_short_row(values, MOST_DEEDS):
        return None
    deeds = [_deed_of(value) for value in values]
    return None if any([deed is None for deed in deeds]) else deeds


class Process:
    """A name, the variables that wake it, and its deeds; it never changes."""

    def __init__(self, name, waits, deeds):
        if not is_word(name) or name == TURN:
            raise NoProcess("name")
        if not are_unlike_words(waits, MOST_WAITS):
            raise NoProcess("waits")
        held = _deeds_of(deeds)
        if held is None:
            raise NoProcess("deeds")
        self._name = name
        self._waits = list(waits)
        self._deeds = held
        self._reads = ascending([word for deed in held for word in deed.term.variables()])
        self._writes = ascending([deed.variable for deed in held])
        self._constants = ascending([number for deed in held for number in deed.term.constants()])

    def __eq__(self, other):
        if not isinstance(other, Process):
            return False
        return self._name == other._name and self._waits == other._waits and self._deeds == other._deeds

    def __len__(self):
        return len(self._deeds)

    def __iter__(self):
        return iter(self._deeds)

    def __getitem__(self, index):
        if not is_index(index, len(self._deeds)):
            raise NoDeed(index)
        return self._deeds[index]

    def __contains__(self, value):
        return isinstance(value, str) and value in self._waits + self._reads + self._writes

    @property
    def name(self):
        """A word other than "turn"."""
        return self._name

    def waits(self):
        """The variables that it waits for, as they were given."""
        return list(self._waits)

    def deeds(self):
        """Its deeds, as they were given."""
        return list(self._deeds)

    def listed(self):
        """What it is iterated over: its deeds."""
        return list(self._deeds)

    def reads(self):
        """The variables in its terms, each once, ascending."""
        return list(self._reads)

    def writes(self):
        """The variables that its deeds write, each once, ascending."""
        return list(self._writes)

    def constants(self):
        """The constants in its terms, each once, ascending."""
        return list(self._constants)

    def delayed(self, *indices):
        """The process with the deeds of these indices at the end."""
        for index in indices:
            if not is_index(index, len(self._deeds)):
                raise NoDeed(index)
        deeds = [deed.delayed() if at in indices else deed for at, deed in enumerate(self._deeds)]
        return Process(self._name, self._waits, deeds)
