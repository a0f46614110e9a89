"""Comparing programs."""

import inspect
import unittest

import model
from checks import NO_BOUNDS, NO_NAMES, Checks, EqualToAll, program_of
from tiedsteps.alike import alike, common_starts, difference, idle, merged
from tiedsteps.errors import NoName, NoNumber, NoPair, NoProgram, TooMany
from tiedsteps.programs import Program
from tiedsteps.rules import start_state
from tiedsteps.verdicts import starts

LINE = program_of("p a: b := a", "q b: c := b")
# The same ends, by other moves.
DIRECT = program_of("q b: c := b", "p a: c := (a=b?c:a); b := a")
RACE = program_of("p a: b := 1", "q a: b := 2")
ONE = program_of("p a: b := 1")
TWO = program_of("p a: b := 2")
BLINK = program_of("p ab: b <= (b=0?1:0)")
CALLS = [alike, difference, merged]
NO_PROGRAMS = [None, True, 0, "", "p", [], ["p"], (), {}, LINE.names(), LINE["p"], Program, EqualToAll()]


def sizes(program):
    return [len(model.table(program, start_state(program, *start))) for start in starts(program)]


def common_by_model(one, other):
    """The common starts, told by a program that has the constants of both."""
    constants = sorted(set(one.constants() + other.constants()))
    told = model.Shape(one.variables(), sorted(one.inputs()), constants)
    return model.starts(told)


def difference_by_model(one, other):
    for start in common_by_model(one, other):
        state, second = start_state(one, *start), start_state(other, *start)
        unlike = set(model.ends(one, state)) ^ set(model.ends(other, second))
        if unlike:
            return start, "end", min(unlike)
        rings = model.has_ring(one, state), model.has_ring(other, second)
        if rings[0] != rings[1]:
            return start, "ring", "first" if rings[0] else "second"
    return None


def merged_by_model(one, other):
    return all(set(model.ends(one, start_state(one, *start))) <= set(model.ends(other, start_state(other, *start)))
               for start in common_by_model(one, other))


def some_pairs(many, seed):
    """Pairs of programs that can be compared: each with one of its processes taken out, or with other deeds."""
    told = []
    for program in model.some_programs(many, seed):
        told.append((program, program))
        told.append((program, Program([program[name] for name in program.names()[::-1]], program.inputs()[::-1])))
        for place in program.places():
            told.append((program, program.delayed([place])))
        for name in program.names()[:-1]:
            rest = program.without(name)
            if rest.variables() == program.variables():
                told.append((program, rest))
    return told


class CommonStartsTest(Checks):
    def test_of_one_program(self):
        for program in (LINE, RACE, BLINK, *model.some_programs(20, 81)):
            told = list(common_starts(program, program))
            self.assertEqual(told, list(starts(program)))

    def test_with_the_constants_of_both(self):
        told = list(common_starts(one=ONE, other=program_of("p a: b := 0")))
        values = [(0, 0), (0, 1), (0, 2), (1, 0), (1, 1), (1, 2), (2, 0), (2, 1), (2, 2), (2, 3)]
        self.assertEqual(told, [(row, ("a",)) for row in values])
        self.assertEqual(list(common_starts(program_of("p a: b := 0"), ONE)), told)
        four = list(common_starts(program_of("p a: b := 9; b := 3"), program_of("p a: b := 1; b := 7")))
        self.assertEqual(four[0], ((1, 1), ("a",)))
        self.assertEqual(four[-2:], [((0, 0), ("a",)), ((0, 2), ("a",))])
        self.assertEqual(len(four), 26)

    def test_of_several_inputs_in_whatever_order(self):
        one, other = program_of("p ab: c := 1", inputs="ba"), program_of("p ab: c := 1", inputs="ab")
        told = list(common_starts(one, other))
        self.assertEqual([changed for _, changed in told[:3]], [("a",), ("b",), ("a", "b")])
        self.assertEqual(told, list(common_starts(other, one)))
        self.assertEqual(told, common_by_model(one, other))

    def test_a_generator_of_tuples(self):
        self.assertTrue(inspect.isgenerator(common_starts(LINE, LINE)))
        for start in common_starts(ONE, TWO):
            self.assertEqual([start.__class__, start[0].__class__, start[1].__class__], [tuple] * 3)

    def test_what_cannot_be_compared(self):
        for wrong in NO_PROGRAMS:
            self.refuses_it(NoPair, wrong, lambda: list(common_starts(wrong, LINE)))
            self.refuses_it(NoPair, wrong, lambda: list(common_starts(LINE, wrong)))
        self.refuses_it(NoPair, RACE, lambda: list(common_starts(LINE, RACE)))


class PairsTest(Checks):
    def test_what_is_no_program(self):
        for call in CALLS:
            for wrong in NO_PROGRAMS:
                self.refuses_it(NoPair, wrong, call, wrong, LINE)
                self.refuses_it(NoPair, wrong, call, LINE, wrong)
                self.refuses_it(NoPair, wrong, call, wrong, None, most=0)
                self.refuses_it(NoPair, wrong, call, LINE, wrong, most=1)

    def test_the_first_one_is_told(self):
        one, other = EqualToAll(), EqualToAll()
        for call in CALLS:
            self.refuses_it(NoPair, one, call, one, other)

    def test_other_variables_and_other_inputs(self):
        one = program_of("p a: c := a", inputs="a")
        for other in (program_of("p a: d := a"), program_of("p a: c := d"), program_of("p c: a := c", inputs="c"),
                      program_of("p a: b := c"), program_of("p ac: d := a")):
            for call in CALLS:
                self.refuses_it(NoPair, other, call, one, other)
                self.refuses_it(NoPair, one, call, other, one)
                self.refuses_it(NoPair, other, call, one, other, most=True)
        one, other = program_of("p a: c := b", inputs="ab"), program_of("p a: c := b", inputs="a")
        for call in CALLS:
            self.refuses_it(NoPair, other, call, one, other)
            self.refuses_it(NoPair, one, call, other, one)

    def test_inputs_in_another_order(self):
        one, other = program_of("p ab: c := b", inputs="ab"), program_of("p ab: c := b", inputs="ba")
        self.assertIs(alike(one, other), True)
        self.assertIsNone(difference(one, other))
        self.assertIs(merged(one, other), True)


class AlikeTest(Checks):
    def test_alike_ones(self):
        for one, other in ((LINE, LINE), (LINE, DIRECT), (RACE, RACE), (BLINK, BLINK)):
            self.assertIs(alike(one, other), True)
            self.assertIs(alike(other=one, one=other, most=500), True)
            self.assertIsNone(difference(one, other))

    def test_unlike_ends(self):
        self.assertIs(alike(ONE, TWO), False)
        self.assertEqual(difference(one=ONE, other=TWO, most=100), (((1, 1), ("a",)), "end", (1, 1)))
        self.assertEqual(difference(TWO, ONE), (((1, 1), ("a",)), "end", (1, 1)))
        # Here the least one of just one of them is that of the second.
        self.assertEqual(difference(RACE, ONE), (((1, 1), ("a",)), "end", (1, 2)))
        self.assertEqual(difference(ONE, RACE), (((1, 1), ("a",)), "end", (1, 2)))

    def test_unlike_only_at_some_starts(self):
        one, other = program_of("p a: b := (a=5?1:b)"), program_of("p a: b := (a=6?1:b)")
        self.assertEqual(difference(one, other), (((5, 5), ("a",)), "end", (5, 1)))
        self.assertEqual(difference(other, one), (((5, 5), ("a",)), "end", (5, 1)))
        self.assertIs(merged(one, other), False)
        # Only where the constant of the other one is the value of a.
        one, other = program_of("p a: b := a"), program_of("p a: b := (a=7?b:a)")
        self.assertEqual(difference(one, other), (((7, 0), ("a",)), "end", (7, 0)))

    def test_rings(self):
        other = program_of("p ab: b <= (b=0?1:b)")
        self.assertEqual(difference(BLINK, other), (((0, 0), ("a",)), "end", (0, 1)))
        # From all other starts both have no end, but a ring.
        other = program_of("p ab: b <= (b=0?1:(b=1?0:a))")
        self.assertEqual(difference(BLINK, other), difference_by_model(BLINK, other))
        self.assertIs(alike(BLINK, BLINK), True)

    def test_a_ring_beside_the_same_ends(self):
        found = 0
        for first, second in some_pairs(50, 82):
            told = difference(first, second)
            if told is not None and told[1] == "ring":
                found += 1
                self.assertEqual(told, difference_by_model(first, second))
                self.assertEqual(difference(second, first)[:2], told[:2])
                self.assertEqual({difference(second, first)[2], told[2]}, {"first", "second"})
        self.assertGreater(found, 3)

    def test_as_the_model_finds_them(self):
        kinds = []
        for one, other in some_pairs(30, 83):
            told = difference(one, other)
            self.assertEqual(told, difference_by_model(one, other))
            self.assertIs(alike(one, other), told is None)
            self.assertIs(alike(other, one), told is None)
            self.assertIs(merged(one, other), merged_by_model(one, other))
            kinds.append(told and told[1])
        self.assertTrue({None, "end"} <= set(kinds))

    def test_other_constants(self):
        programs = [program for program in model.some_programs(60, 84) if program.variables() == ["a", "c"]]
        self.assertGreater(len(programs), 5)
        for one in programs:
            for other in programs[:8]:
                if sorted(one.inputs()) == sorted(other.inputs()):
                    self.assertEqual(difference(one, other), difference_by_model(one, other))
                    self.assertIs(merged(one, other), merged_by_model(one, other))


class MergedTest(Checks):
    def test_one_way(self):
        self.assertIs(merged(ONE, RACE), True)
        self.assertIs(merged(one=RACE, other=ONE, most=100), False)
        self.assertIs(merged(RACE, RACE), True)
        self.assertIs(merged(ONE, TWO), False)

    def test_rings_have_no_part(self):
        # No end at all is among those of any.
        other = program_of("p a: b := (b=0?1:0)")
        self.assertEqual(model.ends(BLINK, start_state(BLINK, [0, 0], ["a"])), [])
        self.assertIs(merged(BLINK, other), True)
        self.assertIs(merged(other, BLINK), False)


class IdleTest(Checks):
    def test_idle_ones(self):
        program = program_of("p a: b := a", "q a: b := b", "r b: c := b", "s c: b := b")
        self.assertEqual([idle(program, name) for name in program.names()], [False, True, False, True])
        self.assertIs(idle(program=program, name="q", most=500), True)

    def test_two_that_do_the_same(self):
        program = program_of("p a: b := a", "q a: b := a")
        self.assertIs(idle(program, "p"), True)
        self.assertIs(idle(program, "q"), True)

    def test_where_variables_fall_away(self):
        self.assertIs(idle(LINE, "q"), False)
        self.assertIs(idle(program_of("p a: b := a", "q a: b := b; c := c"), "q"), False)
        # Nothing is looked at, so nothing is too many, but a bound must be one.
        self.assertIs(idle(LINE, "q", most=1), False)
        self.refuses(NoNumber, 0, idle, LINE, "q", most=0)

    def test_wrong_names(self):
        for wrong in NO_NAMES:
            self.refuses_it(NoName, wrong, idle, LINE, wrong)
            self.refuses_it(NoName, wrong, idle, LINE, wrong, most=0)
            self.refuses_it(NoName, wrong, idle, ONE, wrong)

    def test_the_only_process(self):
        self.refuses(NoProgram, "processes", idle, ONE, "p")
        self.refuses(NoProgram, "processes", idle, ONE, "p", most=0)

    def test_what_is_no_program(self):
        for wrong in NO_PROGRAMS:
            self.refuses_it(NoPair, wrong, idle, wrong, "p", most=0)

    def test_bounds(self):
        program = program_of("p a: b := a", "q a: b := b")
        most = max(sizes(program))
        self.assertIs(idle(program, "q", most=most), True)
        self.refuses(TooMany, most - 1, idle, program, "q", most=most - 1)
        self.refuses(TooMany, 1, idle, program, "p", most=1)
        for wrong in NO_BOUNDS:
            self.refuses_it(NoNumber, wrong, idle, program, "q", most=wrong)
        self.assertRaises(TypeError, idle, program, "q", 5)


class BoundsTest(Checks):
    def test_of_both_programs(self):
        small, great = ONE, program_of("p a: b := 1", "q a: b := 1", "r a: b := 1")
        most = max(sizes(great))
        self.assertLess(max(sizes(small)), most)
        for call in CALLS:
            for one, other in ((small, great), (great, small)):
                call(one, other, most=most)
                for less in range(1, most):
                    self.refuses(TooMany, less, call, one, other, most=less)

    def test_whatever_an_earlier_start_shows(self):
        # They differ at the first start, but only the change of c leads to more states.
        one = program_of("p a: b := 1", "r c: b := 1", "s c: b := 1", inputs="ac")
        other = program_of("p a: b := 2", "r c: b := 1", "s c: b := 1", inputs="ac")
        most = max(sizes(one) + sizes(other))
        for call in CALLS:
            call(one, other, most=most)
            self.refuses(TooMany, most - 1, call, one, other, most=most - 1)
        self.assertEqual(difference(one, other)[0], ((1, 1, 1), ("a",)))

    def test_wrong_bounds(self):
        for call in CALLS:
            for wrong in NO_BOUNDS:
                self.refuses_it(NoNumber, wrong, call, LINE, LINE, most=wrong)
            self.assertRaises(TypeError, call, LINE, LINE, 5)
        for call in (*CALLS, idle):
            self.assertEqual(call.__kwdefaults__, {"most": 2000})


if __name__ == "__main__":
    unittest.main()
