"""Delays: the fewest deeds at once that have to write at the end for a program to be sole."""

from tiedsteps.errors import NoPlace
from tiedsteps.graphs import check_most
from tiedsteps.plain import is_number, sets_of
from tiedsteps.verdicts import first_fault, is_sole, looked


def _looked_at(program, places, most):
    """What the program with some places delayed shows: its first fault with what fault_of tells, None if sole."""
    shown, _ = looked(program.delayed(places), most)
    fault = first_fault(shown)
    return None if fault is None else (places, fault, *shown[fault])


def _searched(program, most):
    """The pair (least sets, floor), as Delays tells them."""
    places = program.places()
    floor = []
    for many in range(len(places) + 1):
        sets = sets_of(places, many)
        rows = [_looked_at(program, row, most) for row in sets]
        least = [row for row, told in zip(sets, rows) if told is None]
        if least:
            return least, floor
        floor.extend(rows)
    return [], floor


def helps(program, places, *, most=2000):
    """Whether a program with some places delayed is sole."""
    check_most(most)
    return is_sole(program.delayed(places), most=most)


def least_delays(program, *, most=2000):
    """The list of all sets of fewest places that help, as tuples; none if no set helps."""
    least, _ = _searched(program, most)
    return least


def _is_tuple_of_places(value):
    """Whether any value is a tuple of pairs (name, index), so that it may be compared with places."""
    if not isinstance(value, tuple) or not all([isinstance(place, tuple) and len(place) == 2 for place in value]):
        return False
    return all([isinstance(name, str) and is_number(index) for name, index in value])


class Delays:
    """All sets of fewest places that help; it never changes."""

    def __init__(self, program, *, most=2000):
        least, floor = _searched(program, most)
        self._program = program
        self._least = least
        self._floor = floor

    def __len__(self):
        return len(self._least)

    def __iter__(self):
        return iter(self._least)

    def __contains__(self, value):
        return _is_tuple_of_places(value) and value in self._least

    @property
    def fewest(self):
        """How many places have to be delayed, None if no set helps."""
        return len(self._least[0]) if self._least else None

    def listed(self):
        """What it is iterated over: the least sets, as least_delays tells them."""
        return list(self._least)

    def floor(self):
        """The list of tuples (places, fault, start, run, second), one for each set of fewer places."""
        return [(places, fault, start, list(run), list(second)) for places, fault, start, run, second in self._floor]

    def joined(self, places):
        """The program with the places of one of the least sets delayed."""
        chosen = tuple(places) if isinstance(places, list) else places
        if chosen not in self:
            raise NoPlace(places)
        return self._program.delayed(chosen)
