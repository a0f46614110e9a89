"""Slices and groups."""

import random
import unittest

import model
from checks import NO_NAMES, Checks, EqualToAll, program_of
from tiedsteps.errors import NoName, NoPair, NoPattern, NoProgram
from tiedsteps.programs import Program
from tiedsteps.rules import start_state
from tiedsteps.slices import bearing, bears, cut, groups, sliced
from tiedsteps.verdicts import is_sole, starts

# t waits for a alone, and writes what nobody else has.
PROGRAM = program_of("p a: b := a", "q b: c := b", "r c: d := 1", "t a: e := a")
# Names and inputs that do not ascend; s writes what r reads.
BACK = program_of("s c: d := c", "r b: a := d", "q b: e := e", inputs="cb")
NO_ROWS = [None, True, 0, "", "ab", {}, {"a": 1}, {"a"}, EqualToAll(), object()]
NO_VARIABLE = [None, True, 0, "", "f", "p", "A", "a ", b"a", ("a",), ["a"], EqualToAll()]
NO_VALUES = [None, True, 5, "", "12345", (), [], [1, 2, 3, 4], [1, 2, 3, 4, 5, 6], [1, 2, 3, 4, True], [1, 2, 3, 4, "5"],
             [1, 2, 3, 4, 5.0], {}, EqualToAll(), [1, 2, 3, 4, EqualToAll()]]


def bearing_by_model(program, variables):
    """Word by word: those that write one of them, or one that another one that bears on them has."""
    found = set()
    while True:
        more = {
            name for name in program.names()
            if any(variable in variables or any(variable in program[other] for other in found - {name})
                   for variable in program[name].writes())
        }
        if more == found:
            return [name for name in program.names() if name in found]
        found = more


def groups_by_model(program):
    near = {name: {name} for name in program.names()}
    for one in program.names():
        for other in program.names():
            if one != other and any(variable in program[other] for variable in program[one].writes()):
                near[one].add(other)
                near[other].add(one)
    for _ in program.names():
        near = {name: set().union(*(near[other] for other in near[name])) for name in near}
    rows = [[other for other in program.names() if other in near[name]] for name in program.names()]
    return [row for at, row in enumerate(rows) if row not in rows[:at]]


class BearingTest(Checks):
    def test_each_variable(self):
        told = {"a": [], "b": ["p"], "c": ["p", "q"], "d": ["p", "q", "r"], "e": ["t"]}
        for variable, names in told.items():
            self.assertEqual(bearing(PROGRAM, [variable]), names)
            self.assertEqual(bearing(program=PROGRAM, variables=(variable,)), names)
            for name in PROGRAM.names():
                self.assertIs(bears(PROGRAM, name, (variable,)), name in names)
                self.assertIs(bears(program=PROGRAM, name=name, variables=[variable]), name in names)
        self.new_each_time(lambda: bearing(PROGRAM, ["c"]), ["p", "q"])

    def test_several_variables(self):
        self.assertEqual(bearing(PROGRAM, ["e", "b"]), ["p", "t"])
        self.assertEqual(bearing(PROGRAM, ["e", "e", "a"]), ["t"])
        self.assertEqual(bearing(PROGRAM, PROGRAM.variables()), PROGRAM.names())
        self.assertEqual(bearing(PROGRAM, []), [])
        self.assertIs(bears(PROGRAM, "p", ()), False)

    def test_in_the_order_of_the_program(self):
        self.assertEqual(bearing(BACK, ["a"]), ["s", "r"])
        self.assertEqual(bearing(BACK, ["e", "d"]), ["s", "q"])

    def test_what_is_written_waited_for_or_read(self):
        # p bears on c since q waits for b, reads b, or writes b.
        for row in ("q b: c := 1", "q a: c := b", "q a: c := 1; b := 1"):
            self.assertEqual(bearing(program_of("p a: b := a", row), ["c"]), ["p", "q"])
        self.assertEqual(bearing(program_of("p a: b <= a", "q a: c <= (1=1?2:b)"), ["c"]), ["p", "q"])
        self.assertEqual(bearing(program_of("p a: b := a", "q a: c := a"), ["c"]), ["q"])

    def test_wrong_ones(self):
        for wrong in NO_NAMES:
            self.refuses_it(NoName, wrong, bears, PROGRAM, wrong, ["a"])
            self.refuses_it(NoName, wrong, bears, PROGRAM, wrong, None)
        for wrong in NO_ROWS:
            self.refuses_it(NoName, wrong, bears, PROGRAM, "p", wrong)
            self.refuses_it(NoName, wrong, bearing, PROGRAM, wrong)
            self.refuses_it(NoName, wrong, sliced, PROGRAM, wrong)
        for wrong in NO_VARIABLE:
            for call in (bearing, sliced, lambda program, variables: bears(program, "p", variables)):
                self.refuses_it(NoName, wrong, call, PROGRAM, [wrong])
                self.refuses_it(NoName, wrong, call, PROGRAM, ("a", wrong, None))

    def test_as_the_model_finds_them(self):
        for program in model.some_programs(80, 111, processes=5):
            for at in range(len(program.variables()) + 1):
                variables = program.variables()[at:at + 2]
                told = bearing(program, variables)
                self.assertEqual(told, bearing_by_model(program, variables))
                self.assertEqual([name for name in program.names() if bears(program, name, variables)], told)


class SlicedTest(Checks):
    def test_of_several_variables(self):
        self.assertEqual(sliced(PROGRAM, ["b"]), program_of("p a: b := a"))
        self.assertEqual(sliced(program=PROGRAM, variables=("c",)), program_of("p a: b := a", "q b: c := b"))
        self.assertEqual(sliced(PROGRAM, ["e", "b"]), program_of("p a: b := a", "t a: e := a"))
        self.assertEqual(sliced(PROGRAM, PROGRAM.variables()), PROGRAM)
        self.assertEqual(sliced(BACK, ["d"]), program_of("s c: d := c", inputs="cb"))

    def test_of_what_nobody_writes(self):
        for variables in ([], ["a"], ("a", "a")):
            self.refuses(NoProgram, "processes", sliced, PROGRAM, variables)
        self.assertEqual(sliced(PROGRAM, ["a", "b"]), program_of("p a: b := a"))
        # c is no input, and nobody writes it.
        self.refuses(NoProgram, "processes", sliced, program_of("p a: b := c"), ["c"])

    def test_ends_are_those_of_the_program_cut(self):
        found = 0
        for program in model.some_programs(80, 112, processes=5):
            for variable in program.variables():
                if bearing(program, [variable]):
                    part = sliced(program, [variable])
                    self.assertTrue(is_sole(part) or not is_sole(program))
                    for start in list(starts(program))[::5]:
                        state = start_state(program, *start)
                        if not model.has_ring(program, state):
                            found += 1
                            told = {cut(program, part, end) for end in model.ends(program, state)}
                            other = start_state(part, cut(program, part, start[0]), start[1])
                            self.assertEqual(set(model.ends(part, other)), told)
                            self.assertFalse(model.has_ring(part, other))
        self.assertGreater(found, 500)


class CutTest(Checks):
    def test_of_a_slice(self):
        self.assertEqual(cut(PROGRAM, sliced(PROGRAM, ["e"]), [1, 2, 3, 4, 5]), (1, 5))
        self.assertEqual(cut(program=PROGRAM, other=sliced(PROGRAM, ["c"]), values=(1, 2, 3, 4, 10 ** 59)), (1, 2, 3))
        self.assertEqual(cut(PROGRAM, PROGRAM, [1, 2, 3, 4, 5]), (1, 2, 3, 4, 5))

    def test_of_any_program_with_such_variables(self):
        other = Program([PROGRAM["r"]], ["e"])
        self.assertEqual(cut(PROGRAM, other, [1, 2, 3, 4, 5]), (3, 4, 5))

    def test_wrong_values_ahead_of_wrong_programs(self):
        for wrong in NO_VALUES:
            self.refuses_it(NoPattern, wrong, cut, PROGRAM, PROGRAM, wrong)
            self.refuses_it(NoPattern, wrong, cut, PROGRAM, None, wrong)
        for wrong in [None, True, "PROGRAM", [], PROGRAM.names(), PROGRAM["p"], Program, EqualToAll(),
                      program_of("p a: f := a"), program_of("p f: b := b", inputs="f")]:
            self.refuses_it(NoPair, wrong, cut, PROGRAM, wrong, [1, 2, 3, 4, 5])
        self.refuses_it(NoPair, PROGRAM, cut, sliced(PROGRAM, ["e"]), PROGRAM, [1, 2])


class GroupsTest(Checks):
    def test_of_each(self):
        self.assertEqual(groups(PROGRAM), [["p", "q", "r"], ["t"]])
        self.assertEqual(groups(program=BACK), [["s", "r"], ["q"]])
        self.new_each_time(lambda: groups(PROGRAM), [["p", "q", "r"], ["t"]])
        groups(PROGRAM)[0].append("changed")
        self.assertEqual(groups(PROGRAM)[0], ["p", "q", "r"])
        self.assertEqual(groups(program_of("p a: b := a")), [["p"]])

    def test_by_what_is_written_waited_for_or_read(self):
        for row in ("q b: c := 1", "q a: c := b", "q a: c := 1; b := 1"):
            self.assertEqual(groups(program_of("p a: b := a", row)), [["p", "q"]])
            self.assertEqual(groups(program_of(row, "p a: b := a")), [["q", "p"]])
        # What both only wait for or read is nothing in common.
        self.assertEqual(groups(program_of("p ab: c := b", "q ab: d := b", inputs="ab")), [["p"], ["q"]])

    def test_over_a_third_one(self):
        told = groups(program_of("p a: b := a", "q a: e := e", "r a: d := a", "s a: c := (b=d?1:2)"))
        self.assertEqual(told, [["p", "r", "s"], ["q"]])

    def test_as_the_model_finds_them(self):
        chance = random.Random(113)
        found = set()
        for _ in range(150):
            rows = [f"{name} {chance.choice('aaaabc')}: {chance.choice('bcde')} := {chance.choice('aaaade')}" for name in "rqpts"]
            program = program_of(*rows[:chance.randint(1, 5)])
            self.assertEqual(groups(program), groups_by_model(program))
            found.add(len(groups(program)))
        self.assertTrue({1, 2, 3} <= found)


if __name__ == "__main__":
    unittest.main()
