"""Delays: which deeds at once have to write at the end for a program to be sole."""

import unittest
from itertools import combinations

import model
from checks import NO_BOUNDS, Checks, EqualToAll, program_of
from tiedsteps.delays import Delays, helps, least_delays
from tiedsteps.errors import NoNumber, NoPlace, TooMany
from tiedsteps.rules import start_state
from tiedsteps.verdicts import fault_of, faults, is_sole, starts

LINE = program_of("p a: b := a", "q b: c := b")
RACE = program_of("p a: b := 1", "q a: b := 2")
# Both at the end, or one of the two at the end: who goes ahead matters either way.
SWAP = program_of("p a: b := c", "q a: c := b")
# r looks at both.
TWO = program_of("p a: b := a", "q a: c := a", "r a: d := (b=c?1:2)")
BLINK = program_of("p ab: b <= (b=0?1:0)")
LATE_RACE = program_of("p a: b <= 1", "q a: b <= 2")
# p writes at the end already: its index 0 is no place.
MIXED = program_of("p a: c <= a; b := 1; b := 2", "q ab: d := b")
ALL = [LINE, RACE, SWAP, TWO, BLINK, LATE_RACE, MIXED]
NO_PLACES = [None, True, 5, "", "p", {}, {("p", 0): True}, {("p", 0)}, EqualToAll(), object()]
# For RACE and SWAP, in a row of places.
NO_PLACE = [None, True, 0, "", "p", "p0", (), [], ("p",), ["p", 0], ("p", 0, 0), ("p", 1), ("p", -1), ("x", 0), ("p", True),
            ("p", False), ("p", "0"), ("p", 0.0), ("p", None), (0, "p"), (True, 0), EqualToAll(), (EqualToAll(), 0),
            ("p", EqualToAll()), (("p", 0),), [("p", 0)]]


def sets_of(program):
    places = program.places()
    return [row for many in range(len(places) + 1) for row in combinations(places, many)]


def largest(program):
    return max(len(model.table(program, start_state(program, *start))) for start in starts(program))


def is_sole_by_model(program):
    states = [start_state(program, *start) for start in starts(program)]
    return all(len(model.ends(program, state)) == 1 and not model.has_ring(program, state) for state in states)


def least_by_model(program):
    found = [row for row in sets_of(program) if is_sole_by_model(program.delayed(row))]
    return [row for row in found if len(row) == len(found[0])]


def looked_at(program):
    """The sets whose programs are looked at."""
    found = least_by_model(program)
    return [row for row in sets_of(program) if not found or len(row) <= len(found[0])]


class HelpsTest(Checks):
    def test_each_set(self):
        for program, told in ((RACE, [(("p", 0),), (("q", 0),)]), (SWAP, [(("p", 0), ("q", 0))]), (BLINK, []),
                              (TWO, [(("p", 0), ("q", 0)), (("p", 0), ("q", 0), ("r", 0))])):
            for row in sets_of(program):
                self.assertIs(helps(program, row), row in told, row)
                self.assertIs(helps(program=program, places=list(row)[::-1], most=100), row in told)
                self.assertIs(helps(program, row + row[:1]), row in told)

    def test_a_greater_set_need_not_help(self):
        self.assertIs(helps(RACE, [("p", 0)]), True)
        self.assertIs(helps(RACE, [("p", 0), ("q", 0)]), False)

    def test_no_places(self):
        for program in ALL:
            self.assertIs(helps(program, []), is_sole(program))
            self.assertIs(helps(program, ()), is_sole(program))

    def test_wrong_places(self):
        for wrong in NO_PLACES:
            self.refuses(NoPlace, None, helps, RACE, wrong)
            self.refuses(NoPlace, None, helps, RACE, wrong, most=1)
        for wrong in NO_PLACE:
            self.refuses_it(NoPlace, wrong, helps, RACE, [wrong])
            self.refuses_it(NoPlace, wrong, helps, RACE, (("p", 0), wrong, ("x", 0)), most=1)
        self.refuses(NoPlace, ("p", 0), helps, MIXED, [("p", 1), ("p", 0)])

    def test_bounds(self):
        for program in ALL:
            for row in sets_of(program):
                most = largest(program.delayed(row))
                helps(program, row, most=most)
                if most > 1:
                    self.refuses(TooMany, most - 1, helps, program, row, most=most - 1)
        for wrong in NO_BOUNDS:
            self.refuses_it(NoNumber, wrong, helps, RACE, [], most=wrong)
            self.refuses_it(NoNumber, wrong, helps, RACE, None, most=wrong)
        self.assertRaises(TypeError, helps, RACE, [], 5)


class LeastDelaysTest(Checks):
    def test_none_one_two_or_no_set(self):
        self.assertEqual(least_delays(LINE), [()])
        self.assertEqual(least_delays(program=RACE, most=100), [(("p", 0),), (("q", 0),)])
        self.assertEqual(least_delays(SWAP), [(("p", 0), ("q", 0))])
        self.assertEqual(least_delays(TWO), [(("p", 0), ("q", 0))])
        self.assertEqual(least_delays(BLINK), [])
        self.assertEqual(least_delays(LATE_RACE), [])
        self.new_each_time(lambda: least_delays(RACE), [(("p", 0),), (("q", 0),)])

    def test_in_the_order_of_places(self):
        # Of names that do not ascend: what is written at the end goes behind all else.
        program = program_of("r a: b := 1", "q a: b := 1", "p a: b := 2")
        self.assertEqual(least_delays(program), [(("r", 0),), (("q", 0),), (("p", 0),)])
        program = program_of("r a: b := 1", "q a: c := 1", "p a: b := 2; c := 2")
        told = least_delays(program)
        self.assertEqual(told, [(("r", 0), ("q", 0)), (("r", 0), ("p", 1)), (("q", 0), ("p", 0)), (("p", 0), ("p", 1))])
        self.assertEqual(told, least_by_model(program))

    def test_as_the_model_finds_them(self):
        found = []
        for program in model.some_programs(40, 71):
            told = least_delays(program)
            self.assertEqual(told, least_by_model(program))
            found.append(len(told[0]) if told else None)
        self.assertTrue({0, 1, None} <= set(found))

    def test_bounds_of_all_that_is_looked_at(self):
        for program in ALL:
            most = max(largest(program.delayed(row)) for row in looked_at(program))
            for call in (least_delays, Delays):
                call(program, most=most)
                for less in range(1, most):
                    self.refuses(TooMany, less, call, program, most=less)

    def test_bounds_of_nothing_else(self):
        # Larger sets have more states, but are not looked at.
        program = program_of("q ac: c := (c=a?c:a); c := 7", "p ac: c <= a")
        sizes = {row: largest(program.delayed(row)) for row in sets_of(program)}
        most = max(sizes[row] for row in looked_at(program))
        self.assertEqual(most, 8)
        self.assertEqual(max(sizes.values()), 17)
        told = [(("q", 1),)]
        self.assertEqual(least_delays(program, most=most), told)
        self.assertEqual(Delays(program, most=most).listed(), told)

    def test_bounds_where_no_set_helps(self):
        most = [largest(LATE_RACE.delayed(row)) for row in sets_of(LATE_RACE)]
        self.assertEqual(least_delays(LATE_RACE, most=max(most)), [])
        # The largest one has all delayed.
        program = program_of("q ca: c <= (4=4?c:a)", "p a: c := a", "s a: c := 4; c := (0=4?4:4)")
        sizes = [largest(program.delayed(row)) for row in sets_of(program)]
        self.assertEqual((sizes[-1], max(sizes[:-1])), (20, 18))
        for call in (least_delays, Delays):
            self.assertEqual(len(call(program, most=20)), 0)
            for less in (18, 19):
                self.refuses(TooMany, less, call, program, most=less)

    def test_wrong_bounds(self):
        for call in (least_delays, Delays):
            for wrong in NO_BOUNDS:
                self.refuses_it(NoNumber, wrong, call, RACE, most=wrong)
            self.assertRaises(TypeError, call, RACE, 5)
        for call in (least_delays, helps, Delays.__init__):
            self.assertEqual(call.__kwdefaults__, {"most": 2000})


class DelaysTest(Checks):
    def test_what_it_tells(self):
        for program, fewest in ((LINE, 0), (RACE, 1), (SWAP, 2), (TWO, 2), (BLINK, None), (LATE_RACE, None)):
            delays = Delays(program=program, most=100)
            told = least_delays(program)
            self.assertEqual((delays.fewest, delays.listed(), list(delays), len(delays)), (fewest, told, told, len(told)))
            self.assertEqual(delays.fewest.__class__, fewest.__class__)
        self.new_each_time(Delays(RACE).listed, [(("p", 0),), (("q", 0),)])
        self.assertRaises(AttributeError, setattr, Delays(RACE), "fewest", 1)

    def test_iterated_over_twice(self):
        delays = Delays(RACE)
        self.assertEqual([row for row in delays], [row for row in delays])

    def test_what_is_in_it(self):
        delays = Delays(SWAP)
        self.assertIs((("p", 0), ("q", 0)) in delays, True)
        for wrong in [*NO_PLACES, *NO_PLACE, (), [], [("p", 0), ("q", 0)], (("q", 0), ("p", 0)), (("p", 0),),
                      (("p", 0), ("q", 0), ("q", 0)), (("p", False), ("q", 0)), (("p", 0), ("q", False)), ("p", 0, "q", 0),
                      (["p", 0], ["q", 0]), (("p", 0), EqualToAll()), (("p", 0), ("q", EqualToAll()))]:
            self.assertIs(wrong in delays, False, wrong)
        for wrong in NO_PLACE:
            for row in ((wrong,), (wrong, ("q", 0)), (("p", 0), wrong)):
                self.assertIs(row in delays, False, row)
                self.refuses_it(NoPlace, row, delays.joined, row)
        self.assertIs(() in Delays(LINE), True)
        self.assertIs([] in Delays(LINE), False)
        self.assertIs(() in Delays(BLINK), False)
        # Of the index 1 of q.
        delays = Delays(program_of("p a: b := 1", "q a: c := 1; b := 2"))
        self.assertIs((("q", 1),) in delays, True)
        self.assertIs((("q", True),) in delays, False)

    def test_joined(self):
        for program in (LINE, RACE, SWAP, TWO):
            delays = Delays(program)
            for row in delays:
                for told in (delays.joined(row), delays.joined(list(row)), delays.joined(places=row)):
                    self.assertEqual(told, program.delayed(row))
                    self.assertIs(is_sole(told), True)

    def test_joined_with_anything_else(self):
        delays = Delays(SWAP)
        for wrong in [*NO_PLACES, *NO_PLACE, (), [], [("q", 0), ("p", 0)], [("p", 0)], [("p", 0), ("q", False)],
                      [["p", 0], ["q", 0]], (("p", 0), ("p", 0)), [("p", 0), ("q", 0), ("q", 0)],
                      ((("p", 0), ("q", 0)),), [EqualToAll(), EqualToAll()]]:
            self.refuses_it(NoPlace, wrong, delays.joined, wrong)
        for wrong in ((), [], (("p", 0),)):
            self.refuses_it(NoPlace, wrong, Delays(BLINK).joined, wrong)

    def test_floor(self):
        self.assertEqual(Delays(LINE).floor(), [])
        for program in ALL:
            told = Delays(program).floor()
            least = least_delays(program)
            rows = [row for row in sets_of(program) if not least or len(row) < len(least[0])]
            self.assertEqual([part[0] for part in told], rows)
            for places, fault, start, run, second in told:
                delayed = program.delayed(places)
                self.assertEqual(fault, faults(delayed)[0])
                self.assertEqual((start, run, second), fault_of(delayed, fault))
                self.assertEqual((run.__class__, second.__class__), (list, list))

    def test_floor_is_new_each_time(self):
        delays = Delays(RACE)
        self.new_each_time(delays.floor, delays.floor())
        told = delays.floor()
        told[0][3].append("changed")
        told[0][4].clear()
        self.assertNotEqual(told, delays.floor())
        self.assertEqual(delays.floor(), Delays(RACE).floor())

    def test_floor_in_order(self):
        told = [row[0] for row in Delays(SWAP).floor()]
        self.assertEqual(told, [(), (("p", 0),), (("q", 0),)])
        told = [row[0] for row in Delays(program_of("q a: b <= 1", "p a: b <= 2; c := 1; c := 2")).floor()]
        self.assertEqual(told, [(), (("p", 1),), (("p", 2),), (("p", 1), ("p", 2))])


if __name__ == "__main__":
    unittest.main()
