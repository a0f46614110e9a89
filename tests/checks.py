"""What the tests of all parts share."""

import unittest

from tiedsteps.processes import Process
from tiedsteps.programs import Program

# Each error with the name of what it is made of.
MADE_OF = {
    "NoTerm": "value", "NoDeed": "value", "NoProcess": "part", "NoProgram": "part",
    "NoPattern": "value", "NoStart": "value", "NoMove": "index", "NothingBack": "many",
    "NoNumber": "value", "NoPlace": "value", "NoPair": "value", "NoNote": "line",
    "NoOrder": "value", "NoFault": "value", "NoPlan": "value",
    "TooMany": "most", "NoName": "who", "NeverEnds": "many",
}


class Checks(unittest.TestCase):
    """A test case that also looks at what an error tells."""

    def kept_by(self, kind, call, arguments, named):
        with self.assertRaises(kind) as caught:
            call(*arguments, **named)
        self.assertIs(caught.exception.__class__, kind)
        return getattr(caught.exception, MADE_OF[kind.__name__])

    def refuses(self, kind, kept, call, *arguments, **named):
        """The call raises just this kind of error, which keeps an equal value of the same class."""
        value = self.kept_by(kind, call, arguments, named)
        self.assertIs(value.__class__, kept.__class__)
        self.assertEqual(value, kept)

    def refuses_it(self, kind, kept, call, *arguments, **named):
        """The call raises just this kind of error, which keeps this very value."""
        self.assertIs(self.kept_by(kind, call, arguments, named), kept)

    def new_each_time(self, call, told):
        """The call tells a list, and changes of it change nothing that is told later."""
        first = call()
        self.assertIs(first.__class__, list)
        self.assertEqual(first, told)
        first.append("changed")
        first[0] = "changed"
        self.assertEqual(call(), told)


def program_of(*rows, inputs=("a",)):
    """A program of rows "NAME WAITS: DEED; DEED ..", WAITS one letter for each variable."""
    told = []
    for row in rows:
        head, deeds = row.split(": ")
        name, waits = head.split(" ")
        told.append(Process(name, list(waits), deeds.split("; ")))
    return Program(told, list(inputs))


class EqualToAll:
    """Says of every object that it is equal to it."""

    def __eq__(self, other):
        return True

    __hash__ = None


# What is no number from 1, and so no bound of a search.
NO_BOUNDS = [0, -1, -2000, True, False, None, "5", "", 1.0, [1], (1,), {}, {1: 1}, EqualToAll()]
# What is no name of a process and no possible move, though some of it is near one.
NO_NAMES = ["x", "", "P", "p ", "pp", "turns", 0, 1, -1, True, False, None, b"p", [], ["p"], (), ("p",), {}, {"p": 1},
            {"p"}, object(), EqualToAll()]
