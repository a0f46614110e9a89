"""Cases: where the values at the one end of each start come from."""

import unittest

import model
from checks import NO_BOUNDS, NO_NAMES, Checks, EqualToAll, program_of
from tiedsteps.alike import alike
from tiedsteps.cases import Cases
from tiedsteps.errors import NoFault, NoName, NoNumber, NoPattern, NoStart, TooMany
from tiedsteps.patterns import pattern_of, values_of
from tiedsteps.processes import Process
from tiedsteps.programs import Program
from tiedsteps.rules import start_state
from tiedsteps.verdicts import end_of, is_sole, starts

LINE = program_of("p a: b := a", "q b: c := b")
RACE = program_of("p a: b := 1", "q a: b := 2")
BLINK = program_of("p ab: b <= (b=0?1:0)")
# r wakes itself for ever if q goes ahead of p and has no 1 from before.
BOTH = program_of("p a: b := 1", "q a: c := b", "r cd: d <= (c=1?d:(d=0?1:0))")
# With two inputs in the order of descent, and two constants.
PICK = program_of("p ba: c := (a=b?7:a); d <= (c=7?4:c)", inputs="ba")
PATTERNS_OF_LINE = [(0, 0, 0), (0, 0, 1), (0, 1, 0), (0, 1, 1), (0, 1, 2)]
# What is no pattern of LINE.
NO_PATTERNS = [None, True, 0, "", "000", (), [], [0, 0, 0], (0, 0), (0, 0, 0, 0), (1, 0, 0), (0, 2, 1), (0, 0, 2),
               (0, -1, 0), (False, 0, 0), (0, True, 0), (0, "0", 0), (0, 0, None), (0.0, 0, 0), {}, EqualToAll(),
               (0, EqualToAll(), 0)]
NO_CHANGED = [None, True, 0, "", "a", [], (), ["b"], ["a", "a"], ["a", "b"], {"a": 1}, {"a"}, ["A"], [0], [True],
              EqualToAll(), [EqualToAll()], ("a", EqualToAll())]
NO_VALUES = [None, True, 5, "", "123", (), [], [1, 2], [1, 2, 3, 4], [1, 2, True], [1, 2, "3"], [1, 2, None], [1, 2, 3.0],
             {}, {0: 1, 1: 2, 2: 3}, EqualToAll(), [1, 2, EqualToAll()]]


def sources_by_model(program, start):
    """The sources of a start, word by word."""
    values, _ = start
    end = model.ends(program, start_state(program, *start))[0]
    first = [(number, number) for number in program.constants()] + list(zip(program.variables(), values))
    return tuple(next(source for source, value in first if value == one) for one in end)


def sole_programs(many, seed):
    return [program for program in model.some_programs(many, seed) if is_sole(program)]


def as_rows(program):
    return [(pattern_of(program, start[0]), start[1], sources_by_model(program, start)) for start in starts(program)]


class CasesTest(Checks):
    def test_start_by_start(self):
        told = [
            ((0, 0, 0), ("a",), ("a", "a", "a")), ((0, 0, 1), ("a",), ("a", "a", "c")),
            ((0, 1, 0), ("a",), ("a", "a", "a")), ((0, 1, 1), ("a",), ("a", "a", "a")),
            ((0, 1, 2), ("a",), ("a", "a", "a")),
        ]
        cases = Cases(program=LINE, most=100)
        self.assertEqual((cases.listed(), list(cases), len(cases)), (told, told, 5))
        self.assertEqual([case for case in cases], [case for case in cases])
        self.new_each_time(cases.listed, told)
        for case in cases:
            self.assertEqual([part.__class__ for part in (case, *case)], [tuple] * 4)

    def test_with_constants_and_several_inputs(self):
        cases = Cases(PICK)
        self.assertEqual(len(cases), len(list(starts(PICK))))
        self.assertEqual(cases.listed(), as_rows(PICK))
        # a is 4, b, c and d are 7.
        self.assertEqual(cases.sources((0, 1, 1, 1), ("a",)), (4, 7, 4, 4))
        # All are alike, and none is a constant.
        self.assertEqual(cases.sources((2, 2, 2, 2), ["b"]), ("a", "a", 7, 4))
        self.assertEqual(cases.sources((2, 3, 2, 4), ["b", "a"]), ("a", "b", "a", "a"))

    def test_as_the_model_tells_them(self):
        for program in [LINE, PICK, *sole_programs(80, 101)]:
            cases = Cases(program)
            self.assertEqual(cases.listed(), as_rows(program))
            for case in cases:
                self.assertIs(case in cases, True)

    def test_faults(self):
        for program, fault in ((RACE, "parts"), (BLINK, "rings"), (BOTH, "parts")):
            self.refuses(NoFault, fault, Cases, program)

    def test_bounds_ahead_of_faults(self):
        for program in (LINE, RACE, BLINK, BOTH, PICK):
            most = max(len(model.table(program, start_state(program, *start))) for start in starts(program))
            if is_sole(program):
                Cases(program, most=most)
            else:
                self.assertRaises(NoFault, Cases, program, most=most)
            self.refuses(TooMany, most - 1, Cases, program, most=most - 1)
            for wrong in NO_BOUNDS:
                self.refuses_it(NoNumber, wrong, Cases, program, most=wrong)
        self.assertRaises(TypeError, Cases, LINE, 5)
        self.assertEqual(Cases.__init__.__kwdefaults__, {"most": 2000})


class CalledTest(Checks):
    def test_any_values(self):
        cases = Cases(LINE)
        self.assertEqual(cases([5, -3, 10 ** 59], ["a"]), (5, 5, 5))
        self.assertEqual(cases(values=(-1, -1, 10 ** 59), changed=("a",)), (-1, -1, 10 ** 59))
        self.assertEqual(Cases(PICK)([9, 9, 1, 2], ["a"]), (9, 9, 7, 4))
        self.assertEqual(Cases(PICK)([9, 8, 9, 9], ["b"]), (9, 8, 9, 9))

    def test_changed_in_any_order(self):
        program = program_of("p a: c := a", "q b: d := b", inputs="ba")
        for changed in (["a", "b"], ("b", "a")):
            self.assertEqual(Cases(program)([1, 2, 3, 4], changed), (1, 2, 1, 2))
        self.assertEqual(Cases(program)([1, 2, 3, 4], ["b"]), (1, 2, 3, 2))

    def test_as_all_runs_end(self):
        for program in [PICK, *sole_programs(60, 102)]:
            cases = Cases(program)
            for values, changed in list(starts(program))[::3]:
                others = tuple([value if value in program.constants() else 100 - 7 * value for value in values])
                self.assertEqual(cases(others, changed), end_of(program, others, changed))
                self.assertEqual([cases(others, changed)], model.ends(program, start_state(program, others, changed)))

    def test_wrong_values_ahead_of_wrong_inputs(self):
        cases = Cases(LINE)
        for wrong in NO_VALUES:
            self.refuses_it(NoStart, wrong, cases, wrong, ["a"])
            self.refuses_it(NoStart, wrong, cases, wrong, None)
        for wrong in NO_CHANGED:
            self.refuses_it(NoStart, wrong, cases, [1, 2, 3], wrong)


class SourcesTest(Checks):
    def test_of_each_case(self):
        for program in (LINE, PICK):
            cases = Cases(program)
            for pattern, changed, told in cases:
                self.assertEqual(cases.sources(pattern, changed), told)
                self.assertEqual(cases.sources(pattern=pattern, changed=list(changed)[::-1]), told)

    def test_wrong_patterns_ahead_of_wrong_inputs(self):
        cases = Cases(LINE)
        for wrong in NO_PATTERNS:
            self.refuses_it(NoPattern, wrong, cases.sources, wrong, ["a"])
            self.refuses_it(NoPattern, wrong, cases.sources, wrong, None)
        for wrong in NO_CHANGED:
            self.refuses_it(NoStart, wrong, cases.sources, (0, 0, 0), wrong)


class ContainsTest(Checks):
    def test_what_is_none_of_them(self):
        cases = Cases(PICK)
        case = ((2, 3, 2, 4), ("a", "b"), ("a", "b", "a", "a"))
        self.assertIs(case in cases, True)
        pattern, changed, sources = case
        for wrong in (None, True, "case", 0, (), [], [pattern, changed, sources], (pattern, changed), (*case, ()),
                      (list(pattern), changed, sources), (pattern, list(changed), sources), (pattern, changed, list(sources)),
                      (pattern, ("b", "a"), sources), (pattern, ("a", "a"), sources), (pattern, (), sources),
                      (pattern, changed, ("a", "b", "a", "b")), (pattern, changed, ("a", "b", "c", "a")),
                      (pattern, changed, ()), (pattern, changed, sources[:3]), (pattern, changed, None),
                      ((2, 3, 2, 5), changed, sources), ((2, 2, 2, 3), changed, sources), (pattern[:3], changed, sources),
                      (pattern, "ab", sources), (pattern, changed, "abaa"), EqualToAll(), (EqualToAll(),) * 3,
                      (pattern, changed, EqualToAll()), (pattern, changed, (EqualToAll(),) * 4),
                      (pattern, EqualToAll(), sources), (EqualToAll(), changed, sources), (changed, pattern, sources),
                      ({}, {}, {}), ([], [], []), (pattern, ({},), sources), (pattern, changed, ([], [], [], []))):
            self.assertIs(wrong in cases, False, wrong)

    def test_truths_are_no_numbers(self):
        cases = Cases(program_of("p a: b := 1", "q b: c := 0"))
        # a and b are 0, c is 1.
        case = ((0, 0, 1), ("a",), (0, 1, 0))
        self.assertIs(case in cases, True)
        for wrong in (((False, 0, 1), ("a",), (0, 1, 0)), ((0, 0, True), ("a",), (0, 1, 0)),
                      ((0, 0, 1), ("a",), (False, 1, 0)), ((0, 0, 1), ("a",), (0, True, 0)), ((0, 0, 1), ("a",), (0, 1, False)),
                      ((0, 0, 1), ("a",), (0, 1.0, 0))):
            self.assertIs(wrong in cases, False, wrong)


class CopiesTest(Checks):
    def test_constants_ahead_of_variables(self):
        cases = Cases(PICK)
        self.assertEqual([cases.copies(name) for name in "abcd"], [[4, 7, "a"], [4, 7, "a", "b"], [4, 7, "a"], [4, "a"]])
        self.new_each_time(lambda: cases.copies(variable="a"), [4, 7, "a"])
        self.assertEqual([Cases(LINE).copies(name) for name in "abc"], [["a"], ["a"], ["a", "c"]])
        self.assertEqual(Cases(program_of("p a: b := 9; c := 3")).copies("b"), [9])

    def test_of_any_program(self):
        for program in sole_programs(60, 103):
            cases = Cases(program)
            for at, name in enumerate(program.variables()):
                held = {sources[at] for _, _, sources in cases}
                numbers = sorted(source for source in held if not isinstance(source, str))
                self.assertEqual(cases.copies(name), numbers + sorted(held - set(numbers)))

    def test_wrong_names(self):
        cases = Cases(LINE)
        for wrong in [*NO_NAMES, "p", "q", "d", ("a",), ["a"]]:
            self.refuses_it(NoName, wrong, cases.copies, wrong)
            self.refuses_it(NoName, wrong, cases.kept, wrong)


class KeptTest(Checks):
    def test_inputs_are_kept(self):
        self.assertEqual([Cases(LINE).kept(name) for name in "abc"], [True, False, False])
        self.assertEqual([Cases(PICK).kept(variable=name) for name in "abcd"], [True, True, False, False])

    def test_kept_though_its_source_is_another_one(self):
        # Where b is as a is, a is the source of b, which is kept.
        program = program_of("p a: c := b; b := b")
        self.assertEqual([Cases(program).kept(name) for name in "abc"], [True, True, False])
        self.assertEqual(Cases(program).copies("b"), ["a", "b"])

    def test_put_back(self):
        program = program_of("p a: b := b; c := b; b := c")
        self.assertIs(Cases(program).kept("b"), True)
        self.assertIs(Cases(program).kept("c"), False)

    def test_still(self):
        self.assertEqual(Cases(LINE).still(), [Cases(LINE).listed()[0], Cases(LINE).listed()[1]])
        self.new_each_time(Cases(LINE).still, Cases(LINE).listed()[:2])
        self.assertEqual(Cases(program_of("p a: b := b")).still(), Cases(program_of("p a: b := b")).listed())
        self.assertEqual(Cases(program_of("p a: b := (b=1?2:1)")).still(), [])

    def test_of_any_program(self):
        for program in sole_programs(60, 104):
            cases = Cases(program)
            still, kept = [], [True] * len(program.variables())
            for case, (values, changed) in zip(cases, starts(program)):
                end = end_of(program, values, changed)
                self.assertEqual(values, values_of(program, case[0]))
                kept = [held and one == other for held, one, other in zip(kept, values, end)]
                still += [case] if end == values else []
            self.assertEqual(cases.still(), still)
            self.assertEqual([cases.kept(name) for name in program.variables()], kept)


class EqualTest(Checks):
    def test_equal_ones(self):
        one = Cases(program_of("p a: c := a", "q b: d := b", inputs="ab"))
        for other in (program_of("q b: d := b", "p a: c := a", inputs="ab"),
                      program_of("q b: d := b", "p a: c := a", inputs="ba"),
                      program_of("x b: d := b; d := d", "y a: c := d; c := a", inputs="ba")):
            self.assertIs(one == Cases(other, most=50), True)
            self.assertIs(one != Cases(other), False)

    def test_unlike_ones(self):
        one = Cases(LINE)
        for other in (program_of("p a: b := a", "q b: c := a; c := 1; c := a"), program_of("p a: b := a", "q a: c := a"),
                      program_of("p a: b := a", "q b: d := b"), program_of("p a: b := a", "q b: c := b", inputs="ad")):
            self.assertIs(one == Cases(other), False)
            self.assertIs(one != Cases(other), True)
        for other in (LINE, one.listed(), None, EqualToAll(), 5):
            self.assertIs(one == other, False)
        # The cases tell nothing of what b and d are called.
        one, other = Cases(program_of("p a: b := a")), Cases(program_of("p a: d := a"))
        self.assertEqual(one.listed(), other.listed())
        self.assertIs(one == other, False)

    def test_other_inputs_and_other_constants(self):
        # b is no input of the first one, though nobody writes it.
        one, other = program_of("p a: c := b", inputs="a"), program_of("p a: c := b", inputs="ab")
        self.assertIs(Cases(one) == Cases(other), False)
        # The patterns and sources are the same, but for what the constant is.
        one, other = program_of("p a: b := 3"), program_of("p a: b := 4")
        self.assertIs(Cases(one) == Cases(other), False)
        # The constant bears on nothing, but it is one.
        one, other = program_of("p a: b := a"), program_of("p a: b := 4; b := a")
        self.assertIs(Cases(one) == Cases(other), False)
        self.assertIs(alike(one, other), True)

    def test_just_if_alike(self):
        found = []
        for program in sole_programs(90, 105):
            names = program.names()
            others = [Program([program[name] for name in names[::-1]], program.inputs()[::-1])]
            others += [program.delayed([place]) for place in program.places()]
            others += [program.replaced(Process(name, program[name].waits(), program[name].deeds()[::-1])) for name in names]
            for other in others:
                if is_sole(other):
                    found.append(alike(program, other))
                    self.assertIs(Cases(program) == Cases(other), found[-1])
        self.assertGreater(min(found.count(True), found.count(False)), 3)


if __name__ == "__main__":
    unittest.main()
