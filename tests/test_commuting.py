"""Processes that commute, and runs with two moves exchanged."""

import itertools
import unittest

import model
from checks import NO_NAMES, Checks, EqualToAll, program_of
from tiedsteps.benches import played
from tiedsteps.commuting import all_commute, apart, clash, clashes, commute, shift
from tiedsteps.errors import NoMove, NoName, NoNumber
from tiedsteps.rules import start_state

# p and q write unlike variables, r the one that p writes.
MIXED = program_of("p a: b := a", "q a: c := a", "r a: b := 1")
# One reads what the other writes.
READING = program_of("p a: b := a", "q a: c := b")


class CommuteTest(Checks):
    def test_some_that_do(self):
        for one, other in (("p", "q"), ("q", "p"), ("q", "r")):
            self.assertIs(commute(MIXED, one, other), True)
            self.assertIsNone(clash(MIXED, one, other))
        # Both write one value, so it does not matter who goes ahead.
        self.assertIs(commute(program_of("p a: b := 1", "q a: b := 1"), "p", "q"), True)
        self.assertIs(commute(program=program_of("p a: b <= a", "q a: b <= a"), one="p", other="q"), True)
        # What is read at once is written at the end only.
        self.assertIs(commute(program_of("p a: b <= a", "q a: c := b"), "p", "q"), True)

    def test_some_that_do_not(self):
        for program in (
            READING,
            program_of("p a: b := 1", "q a: b := 2"),
            program_of("p a: b <= 1", "q a: b <= 2"),
            # One wakes the other again.
            program_of("p a: b := a", "q ab: c := 1"),
        ):
            self.assertIs(commute(program, "p", "q"), False)
            self.assertIs(commute(program, "q", "p"), False)

    def test_only_for_constants(self):
        self.assertIs(commute(program_of("p a: b := (c=5?1:b)", "q a: c := (a=5?5:c)"), "p", "q"), False)
        # For each value of a just one of them may change b.
        self.assertIs(commute(program_of("p a: b := (a=5?1:b)", "q a: b := (a=5?b:1)"), "p", "q"), True)

    def test_a_process_with_itself(self):
        for program in (MIXED, READING, program_of("p ab: b := 1; c <= b"), program_of("p ab: b <= (b=0?1:0)")):
            self.assertIs(commute(program, "p", "p"), True)
            self.assertIsNone(clash(program, "p", "p"))

    def test_wrong_names(self):
        for wrong in ["a", "turn", *NO_NAMES]:
            for call in (commute, clash, apart):
                with self.subTest(wrong=wrong, call=call):
                    self.refuses_it(NoName, wrong, call, READING, wrong, "q")
                    self.refuses_it(NoName, wrong, call, READING, "p", wrong)
                    self.refuses_it(NoName, wrong, call, READING, wrong, "no")
                    self.refuses_it(NoName, wrong, call, READING, wrong, wrong)

    def test_clash(self):
        values, left, right = clash(program=READING, one="p", other="q")
        a, b, _ = values
        self.assertNotEqual(a, b)
        self.assertEqual((left, right), (((a, a, a), (), ()), ((a, a, b), (), ())))
        self.assertIs(clash(READING, "p", "q").__class__, tuple)
        values, right, left = clash(READING, "q", "p")
        a, b, _ = values
        self.assertEqual((left, right), (((a, a, a), (), ()), ((a, a, b), (), ())))

    def test_clashes(self):
        self.assertEqual(clashes(MIXED), [("p", "r")])
        self.assertEqual(clashes(program_of("z a: b := 1", "y a: b := 2", "x a: b := a")),
                         [("z", "y"), ("z", "x"), ("y", "x")])
        self.assertEqual(clashes(program=program_of("p a: b := a")), [])
        self.new_each_time(lambda: clashes(MIXED), [("p", "r")])
        self.assertIs(all_commute(MIXED), False)
        self.assertIs(all_commute(program=program_of("p a: b := a", "q a: c := a")), True)
        self.assertIs(all_commute(program_of("p a: b := a")), True)

    def test_for_all_values_and_whoever_else_is_awake(self):
        alike = unlike = 0
        for program in model.some_programs(60, 21):
            names = program.names()
            for one, other in itertools.combinations(names, 2):
                told = clash(program, one, other)
                self.assertIs(commute(program, one, other), told is None)
                self.assertIs((one, other) in clashes(program), told is not None)
                if told is None:
                    self.check_alike(program, one, other)
                    alike += 1
                else:
                    self.check_clash(program, one, other, told)
                    unlike += 1
        self.assertGreater(min(alike, unlike), 5)

    def both(self, program, state, one, other):
        return model.after(program, model.after(program, state, one), other)

    def check_alike(self, program, one, other):
        many = len(program.variables())
        for at, values in enumerate(itertools.product([*program.constants(), -1, 77, 78], repeat=many)):
            if at % 7 == 0:
                awake = tuple(range(len(program)))
                later = ((many - 1, 99),)
                for state in ((values, awake, later), (values, awake, ())):
                    left, right = self.both(program, state, one, other), self.both(program, state, other, one)
                    self.assertEqual(left, right)

    def check_clash(self, program, one, other, told):
        values, left, right = told
        names = program.names()
        state = (values, tuple(sorted([names.index(one), names.index(other)])), ())
        self.assertEqual(left, self.both(program, state, one, other))
        self.assertEqual(right, self.both(program, state, other, one))
        self.assertNotEqual(left, right)


class ApartTest(Checks):
    def test_apart(self):
        self.assertIs(apart(MIXED, "p", "q"), True)
        self.assertIs(apart(MIXED, "q", "p"), True)
        self.assertIs(apart(program=MIXED, one="q", other="r"), True)

    def test_not_apart(self):
        self.assertIs(apart(MIXED, "p", "r"), False)
        for program in (
            READING,
            program_of("p a: b := a", "q b: c := a"),
            program_of("p a: b := a", "q a: b := 1"),
            program_of("p a: b <= a", "q a: c := (a=1?b:2)"),
            program_of("p a: c := 1; b <= a", "q a: b <= 1; d := 1"),
        ):
            self.assertIs(apart(program, "p", "q"), False)
            self.assertIs(apart(program, "q", "p"), False)

    def test_one_that_writes_is_not_apart_from_itself(self):
        self.assertIs(apart(MIXED, "p", "p"), False)

    def test_those_apart_commute(self):
        found = 0
        for program in model.some_programs(400, 22):
            for one, other in itertools.combinations(program.names(), 2):
                if apart(program, one, other):
                    self.assertIs(commute(program, one, other), True)
                    found += 1
        self.assertGreater(found, 5)


class ShiftTest(Checks):
    STATE = start_state(MIXED, [5, 0, 0], ["a"])
    RUN = ["p", "q", "r"]

    def test_to_the_same_state(self):
        self.assertEqual(shift(MIXED, self.STATE, self.RUN, 0), ["q", "p", "r"])
        self.assertEqual(shift(MIXED, self.STATE, self.RUN, 1), ["p", "r", "q"])
        self.assertEqual(shift(program=MIXED, state=self.STATE, run=("p", "q"), at=0), ["q", "p"])
        self.assertEqual(self.RUN, ["p", "q", "r"])

    def test_to_another_state(self):
        self.assertIsNone(shift(MIXED, self.STATE, ["q", "p", "r"], 1))
        self.assertIsNone(shift(MIXED, self.STATE, ("p", "r", "q"), 0))
        # The values agree, and yet q is awake again behind one order alone.
        program = program_of("p a: b := a", "q ab: c := a")
        self.assertIsNone(shift(program, start_state(program, [1, 0, 0], ["a"]), ["p", "q"], 0))

    def test_no_run_any_more(self):
        program = program_of("p a: b := a", "q b: c <= b")
        state = start_state(program, [5, 0, 0], ["a"])
        run = ["p", "q", "turn"]
        self.assertIsNone(shift(program, state, run, 0))
        self.assertIsNone(shift(program, state, run, 1))

    def test_the_moves_behind_stay(self):
        program = program_of("p a: b := 1", "q a: c <= 1", "r b: c := 0")
        state = start_state(program, [5, 0, 0], ["a"])
        self.assertEqual(shift(program, state, ["p", "q", "r", "turn"], 0), ["q", "p", "r", "turn"])
        self.assertEqual(shift(program, state, ["p", "q", "r", "turn"], 1), ["p", "r", "q", "turn"])
        self.assertIsNone(shift(program, state, ["p", "q", "r", "turn"], 2))

    def test_what_is_no_run(self):
        for wrong in [None, True, "", "pq", {}, {"p": 1}, iter(["p", "q"]), ["p", "p"], ["turn"], ["p", "q", "r", "turn"],
                      ["p", "q", None], ["p", "q", 0], ["p", ["q"]], EqualToAll(), ["p", EqualToAll()]]:
            with self.subTest(wrong):
                self.refuses(NoMove, None, shift, MIXED, self.STATE, wrong, 0)
                self.refuses(NoMove, None, shift, MIXED, self.STATE, wrong, None)

    def test_what_is_no_index(self):
        for wrong in [2, 3, -1, 10 ** 20, True, False, None, "0", 0.0, [0], (0,), {}, EqualToAll()]:
            with self.subTest(wrong):
                self.refuses_it(NoNumber, wrong, shift, MIXED, self.STATE, self.RUN, wrong)
        for run in ([], ["p"], ()):
            self.refuses(NoNumber, 0, shift, MIXED, self.STATE, run, 0)
            self.refuses(NoNumber, -1, shift, MIXED, self.STATE, run, -1)

    def test_it_leads_where_the_run_leads(self):
        found = 0
        for program in model.some_programs(100, 23):
            state = start_state(program, [0] * len(program.variables()), program.inputs())
            run = []
            behind = state
            while model.next_states(program, behind) and len(run) < 8:
                move, behind = list(model.next_states(program, behind).items())[-1]
                run.append(move)
            for at in range(len(run) - 1):
                told = shift(program, state, run, at)
                exchanged = run[:at] + [run[at + 1], run[at]] + run[at + 2:]
                try:
                    same = model.played(program, state, exchanged) == behind
                except KeyError:
                    same = False
                self.assertEqual(told, exchanged if same else None)
                if same:
                    self.assertEqual(played(program, state, told), behind)
                    found += 1
        self.assertGreater(found, 10)


if __name__ == "__main__":
    unittest.main()
