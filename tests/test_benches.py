"""Benches and runs."""

import unittest

from checks import NO_NAMES, Checks, EqualToAll
from tiedsteps.benches import Bench, by_order, is_run, played, tried
from tiedsteps.errors import NoMove, NoName, NoNumber, NoOrder, NoStart, NothingBack, TooMany
from tiedsteps.processes import Process
from tiedsteps.programs import Program
from tiedsteps.rules import start_state

# Variables a b c: p and q are awake at first, each wakes r, r writes at the end.
PROGRAM = Program(
    [Process("p", ["a"], ["b := 1"]), Process("q", ["a"], ["b := 2"]), Process("r", ["b"], ["c <= b"])], ["a"]
)
START = ((5, 0, 0), (0, 1), ())
BEHIND_P = ((5, 1, 0), (1, 2), ())
BEHIND_PQ = ((5, 2, 0), (2,), ())
BEHIND_PQR = ((5, 2, 0), (), ((2, 2),))
END = ((5, 2, 2), (), ())
RUN = ["p", "q", "r", "turn"]
STATES = [BEHIND_P, BEHIND_PQ, BEHIND_PQR, END]
# What is no list or tuple.
NO_RUNS = [None, True, 0, "", "p", "pq", b"p", {}, {"p": 1}, {"p"}, iter(["p"]), PROGRAM, EqualToAll()]
# Wrong items of a run whose first two moves are p and q.
NO_MOVES = ["p", "q", "turn", "b", *NO_NAMES]
# For ever p and q in turn.
BLINKING = Program([Process("p", ["a", "c"], ["b <= (c=0?1:0)"]), Process("q", ["b"], ["c <= b"])], ["a"])


class Kept(Exception):
    pass


def bench(*run):
    held = Bench(PROGRAM, [5, 0, 0], ["a"])
    held += run
    return held


class BenchChecks(Checks):
    def told(self, held):
        """All that a bench tells."""
        values = [held[name] for name in ("a", "b", "c")]
        return held.state(), held.moves(), held.made(), held.listed(), list(held), len(held), held.ended, values

    def is_as(self, held, *run):
        self.assertEqual(self.told(held), self.told(bench(*run)))
        self.assertEqual(held, bench(*run))


class BenchTest(BenchChecks):
    def test_a_new_one(self):
        held = Bench(program=PROGRAM, values=(5, 0, 0), changed=("a",))
        self.assertEqual(self.told(held), (START, ["p", "q"], [], [], [], 0, False, [5, 0, 0]))

    def test_it_raises_as_start_state(self):
        for wrong in (None, [], [1, 2], [1, 2, True], "123", [1, 2, 3, 4], EqualToAll()):
            self.refuses_it(NoStart, wrong, Bench, PROGRAM, wrong, ["b"])
        for wrong in (None, [], ["b"], ["a", "a"], "a", [True], EqualToAll()):
            self.refuses_it(NoStart, wrong, Bench, PROGRAM, [1, 2, 3], wrong)

    def test_moves_one_by_one(self):
        held = bench()
        for many, move in enumerate(RUN):
            self.assertIs(held.ended, False)
            self.assertEqual(held(move), STATES[many])
            self.assertEqual(held.state(), STATES[many])
            self.assertEqual(held.made(), RUN[:many + 1])
        self.assertEqual(self.told(held), (END, [], RUN, RUN, RUN, 4, True, [5, 2, 2]))
        self.assertEqual(bench()(move="q"), ((5, 2, 0), (0, 2), ()))

    def test_moves_that_are_not_possible(self):
        for wrong in NO_MOVES:
            with self.subTest(wrong):
                held = bench("p", "q")
                self.refuses(NoMove, 2, held, wrong)
                self.is_as(held, "p", "q")
        self.refuses(NoMove, 0, bench(), "r")
        for move in [*RUN, None]:
            self.refuses(NoMove, 4, bench(*RUN), move)

    def test_several_moves_change_this_very_object(self):
        held = same = bench()
        held += ["p", "q"]
        self.assertIs(held, same)
        self.is_as(held, "p", "q")
        held += ("r",)
        held += ()
        held += []
        self.assertIs(held, same)
        self.is_as(held, "p", "q", "r")

    def test_several_moves_are_made_or_none(self):
        for wrong in NO_MOVES:
            with self.subTest(wrong):
                held = bench()
                self.refuses(NoMove, 2, held.__iadd__, ["p", "q", wrong, "r"])
                self.refuses(NoMove, 2, held.__iadd__, ("p", "q", wrong))
                self.is_as(held)
        held = bench("p")
        self.refuses(NoMove, 0, held.__iadd__, ["p"])
        self.refuses(NoMove, 3, held.__iadd__, ["q", "r", "turn", "turn"])
        self.is_as(held, "p")

    def test_several_moves_of_what_is_no_list_or_tuple(self):
        for wrong in [*NO_RUNS, bench("p")]:
            with self.subTest(wrong):
                held = bench()
                self.refuses(NoMove, None, held.__iadd__, wrong)
                self.is_as(held)

    def test_the_run_may_be_changed_behind(self):
        run = ["p", "q"]
        held = bench()
        held += run
        run.append("r")
        self.is_as(held, "p", "q")

    def test_told_lists_are_new(self):
        held = bench("p")
        self.new_each_time(held.moves, ["q", "r"])
        self.new_each_time(held.made, ["p"])
        self.new_each_time(held.listed, ["p"])
        self.is_as(held, "p")

    def test_what_was_handed_in_may_be_changed(self):
        values, changed = [5, 0, 0], ["a"]
        held = Bench(PROGRAM, values, changed)
        values[0], changed[0] = 6, "b"
        self.is_as(held)
        self.is_as(held.twin())

    def test_in(self):
        held = bench()
        for move in ("p", "q"):
            self.assertIs(move in held, True)
        for value in ["r", "turn", *NO_NAMES]:
            self.assertIs(value in held, False)
        self.assertIs("turn" in bench("p", "q", "r"), True)
        self.assertIs("p" in bench("p", "q", "r"), False)
        for move in RUN:
            self.assertIs(move in bench(*RUN), False)

    def test_values(self):
        held = bench("p", "q", "r")
        self.assertEqual([held["a"], held["b"], held["c"]], [5, 2, 0])
        held("turn")
        self.assertEqual(held["c"], 2)
        for wrong in ["d", "p", "turn", *NO_NAMES, slice(0, 1)]:
            with self.subTest(wrong):
                self.refuses_it(NoName, wrong, held.__getitem__, wrong)

    def test_ended(self):
        self.assertEqual([bench(*RUN[:many]).ended for many in range(5)], [False, False, False, False, True])
        self.assertRaises(AttributeError, setattr, bench(), "ended", True)

    def test_back(self):
        held = bench(*RUN)
        self.assertIsNone(held.back())
        self.is_as(held, "p", "q", "r")
        held.back(2)
        self.is_as(held, "p")
        held("q")
        held.back(many=2)
        self.is_as(held)
        held += RUN
        held.back(4)
        self.is_as(held)

    def test_back_by_wrong_numbers(self):
        held = bench("p", "q")
        for wrong in [0, -1, 3, 10 ** 20, True, False, None, "1", "", 1.0, [1], (1,), {}, EqualToAll()]:
            with self.subTest(wrong):
                self.refuses_it(NothingBack, wrong, held.back, wrong)
                self.is_as(held, "p", "q")
        self.refuses(NothingBack, 1, bench().back)
        self.refuses(NothingBack, 1, bench().back, 1)

    def test_twin(self):
        held = bench("p")
        twin = held.twin()
        self.assertIsNot(twin, held)
        self.is_as(twin, "p")
        twin("q")
        self.is_as(held, "p")
        held.back()
        self.is_as(twin, "p", "q")
        self.is_as(held)

    def test_equal(self):
        self.assertTrue(bench("p") == bench("p"))
        self.assertFalse(bench("p") != bench("p"))
        others = [bench(), bench("q"), bench("p", "q"), Bench(PROGRAM, [6, 0, 0], ["a"]), None, "p", ["p"], PROGRAM,
                  EqualToAll()]
        for other in others:
            self.assertIs(bench("p") == other, False)
            self.assertIs(bench("p") != other, True)

    def test_equal_needs_the_same_program(self):
        other = Program([PROGRAM["p"], PROGRAM["q"], Process("r", ["b"], ["c := b"])], ["a"])
        self.assertIs(Bench(other, [5, 0, 0], ["a"]) == bench(), False)

    def test_equal_looks_at_the_start_and_not_only_at_the_state(self):
        program = Program([Process("p", ["a"], ["b := 1"])], ["a"])
        one, other = Bench(program, [0, 1], ["a"]), Bench(program, [0, 2], ["a"])
        one("p")
        other("p")
        self.assertEqual((one.state(), one.made()), (other.state(), other.made()))
        self.assertIs(one == other, False)

    def test_equal_where_other_inputs_wake_the_same(self):
        program = Program([Process("p", ["a", "b"], ["c := 1"])], ["a", "b"])
        self.assertTrue(Bench(program, [0, 1, 2], ["a"]) == Bench(program, [0, 1, 2], ["b"]))


class TrialTest(BenchChecks):
    def test_behind_the_block_it_is_as_ahead_of_it(self):
        held = bench("p")
        with held.trial() as given:
            self.assertIs(given, held)
            given("q")
            held += ["r", "turn"]
            self.is_as(held, *RUN)
        self.is_as(held, "p")
        held("q")
        self.is_as(held, "p", "q")

    def test_moves_taken_back_in_the_block(self):
        held = bench("p", "q")
        with held.trial():
            held.back(2)
            held("q")
            self.is_as(held, "q")
        self.is_as(held, "p", "q")

    def test_kept(self):
        held = bench("p")
        trial = held.trial()
        with trial:
            held("q")
            self.assertIsNone(trial.keep())
            held("r")
        self.is_as(held, "p", "q", "r")
        held.back(2)
        self.is_as(held, "p")

    def test_it_begins_with_the_block(self):
        held = bench()
        trial = held.trial()
        held("p")
        with trial:
            held("q")
        self.is_as(held, "p")

    def test_keep_counts_only_in_the_block(self):
        held = bench("p")
        trial = held.trial()
        trial.keep()
        with trial:
            held("q")
        trial.keep()
        self.is_as(held, "p")

    def test_an_exception_passes_on(self):
        held = bench("p")
        with self.assertRaises(Kept):
            with held.trial():
                held("q")
                raise Kept
        self.is_as(held, "p")

    def test_an_exception_passes_on_where_it_was_kept(self):
        held = bench("p")
        trial = held.trial()
        with self.assertRaises(NoMove):
            with trial:
                held("q")
                trial.keep()
                held("q")
        self.is_as(held, "p")

    def test_one_within_another(self):
        for outer in (True, False):
            for inner in (True, False):
                held = bench()
                first = held.trial()
                with first:
                    held("p")
                    second = held.trial()
                    with second:
                        held("q")
                        if inner:
                            second.keep()
                    self.is_as(held, *(["p", "q"] if inner else ["p"]))
                    held(["q", "r"][inner])
                    if outer:
                        first.keep()
                run = ["p", "q", "r"] if inner else ["p", "q"]
                self.is_as(held, *(run if outer else []))

    def test_an_exception_that_stays_in_the_outer_block(self):
        held = bench()
        first = held.trial()
        with first:
            held("p")
            try:
                with held.trial():
                    held("q")
                    raise Kept
            except Kept:
                first.keep()
        self.is_as(held, "p")

    def test_a_twin_made_in_the_block_goes_on(self):
        held = bench()
        with held.trial():
            held("p")
            twin = held.twin()
        twin("q")
        self.is_as(held)
        self.is_as(twin, "p", "q")

    def test_a_run_left_by_return(self):
        held = bench()

        def leave():
            with held.trial():
                held("p")
                return held.made()

        self.assertEqual(leave(), ["p"])
        self.is_as(held)


class TryingTest(BenchChecks):
    def test_the_visitor_gets_the_bench_itself(self):
        held = bench("p")
        seen = []

        def visitor(given):
            seen.append(given)
            given += ["q", "r"]
            return given.made()

        self.assertEqual(held.trying(visitor), ["p", "q", "r"])
        self.assertIs(seen[0], held)
        self.is_as(held, "p")
        self.assertEqual(held.trying(visitor=visitor, kept=False), ["p", "q", "r"])
        self.is_as(held, "p")
        self.assertEqual(held.trying(visitor, kept=True), ["p", "q", "r"])
        self.is_as(held, "p", "q", "r")

    def test_kept_only_where_it_is_true_itself(self):
        for kept in (1, "yes", [1], None, 0, EqualToAll()):
            held = bench()
            held.trying(lambda given: given("p"), kept=kept)
            self.is_as(held)

    def test_kept_only_by_name(self):
        self.assertRaises(TypeError, bench().trying, lambda given: None, True)

    def test_an_exception_passes_on(self):
        def visitor(given):
            given("p")
            raise Kept

        for kept in (True, False):
            held = bench()
            with self.assertRaises(Kept):
                held.trying(visitor, kept=kept)
            self.is_as(held)

    def test_one_within_another(self):
        held = bench()
        told = held.trying(lambda one: one.trying(lambda other: other("p"), kept=True))
        self.assertEqual(told, BEHIND_P)
        self.is_as(held)
        held.trying(lambda one: (one("q"), one.trying(lambda other: other("p"))), kept=True)
        self.is_as(held, "q")


class RunsTest(Checks):
    def test_played(self):
        for many in range(5):
            behind = [START, *STATES][many]
            self.assertEqual(played(PROGRAM, START, RUN[:many]), behind)
            self.assertEqual(played(program=PROGRAM, state=START, run=tuple(RUN[:many])), behind)
        self.assertEqual(played(PROGRAM, BEHIND_PQ, ["r", "turn"]), END)

    def test_played_by_wrong_runs(self):
        for wrong in NO_RUNS:
            self.refuses(NoMove, None, played, PROGRAM, START, wrong)
        for wrong in NO_MOVES:
            self.refuses(NoMove, 2, played, PROGRAM, START, ["p", "q", wrong, "r"])
        self.refuses(NoMove, 0, played, PROGRAM, START, ["turn"])
        self.refuses(NoMove, 4, played, PROGRAM, START, [*RUN, "turn"])
        self.refuses(NoMove, 0, played, PROGRAM, END, ["p"])

    def test_is_run(self):
        for many in range(5):
            self.assertIs(is_run(PROGRAM, START, RUN[:many]), True)
            self.assertIs(is_run(program=PROGRAM, state=START, run=tuple(RUN[:many])), True)
        for wrong in NO_RUNS:
            self.assertIs(is_run(PROGRAM, START, wrong), False)
        for wrong in NO_MOVES:
            self.assertIs(is_run(PROGRAM, START, ["p", "q", wrong]), False)
        self.assertIs(is_run(PROGRAM, BEHIND_PQ, RUN), False)
        self.assertIs(is_run(PROGRAM, END, []), True)

    def test_tried(self):
        held = bench()
        self.assertEqual(tried(held, RUN), STATES)
        self.assertEqual(tried(bench=held, run=("q",)), [((5, 2, 0), (0, 2), ())])
        self.assertEqual(tried(held, []), [])
        self.assertEqual(held, bench())
        held = bench("p", "q")
        self.assertEqual(tried(held, ["r", "turn"]), [BEHIND_PQR, END])
        self.assertEqual(tried(held, ()), [])
        self.assertEqual(held, bench("p", "q"))
        self.new_each_time(lambda: tried(held, ["r"]), [BEHIND_PQR])

    def test_tried_by_wrong_runs(self):
        held = bench("p")
        for wrong in NO_RUNS:
            self.refuses(NoMove, None, tried, held, wrong)
        self.refuses(NoMove, 1, tried, held, ["q", "q"])
        self.refuses(NoMove, 0, tried, held, ["p"])
        self.assertEqual((held, held.state()), (bench("p"), BEHIND_P))


class OrderTest(Checks):
    def test_the_first_that_is_awake_moves(self):
        self.assertEqual(by_order(PROGRAM, START, ["p", "q", "r"]), ["p", "q", "r", "turn"])
        self.assertEqual(by_order(PROGRAM, START, ("q", "p", "r")), ["q", "p", "r", "turn"])
        self.assertEqual(by_order(PROGRAM, START, ["r", "p", "q"]), ["p", "r", "q", "r", "turn"])
        self.assertEqual(by_order(program=PROGRAM, state=START, order=["r", "q", "p"]), ["q", "r", "p", "r", "turn"])
        self.assertEqual(by_order(PROGRAM, BEHIND_PQR, ["p", "q", "r"]), ["turn"])
        self.assertEqual(by_order(PROGRAM, END, ["p", "q", "r"]), [])
        self.assertIs(by_order(PROGRAM, START, ("p", "q", "r")).__class__, list)

    def test_of_names_that_do_not_ascend(self):
        program = Program([Process("z", ["a"], ["b := 1"]), Process("y", ["a"], ["b := 2"])], ["a"])
        for order in (["z", "y"], ("y", "z")):
            self.assertEqual(by_order(program, ((5, 0), (0, 1), ()), order), list(order))

    def test_wrong_orders(self):
        for wrong in [*NO_RUNS, [], (), ["p"], ["p", "q"], ["p", "q", "r", "p"], ["p", "q", "q"], ["p", "q", "r", "turn"],
                      ["p", "q", "turn"], ["p", "q", "x"], ["p", "q", None], ["p", "q", 2], ["p", "q", ["r"]],
                      ["p", "q", EqualToAll()], ["p", "q", "R"], [["p", "q", "r"]]]:
            with self.subTest(wrong):
                self.refuses_it(NoOrder, wrong, by_order, PROGRAM, START, wrong)
                self.refuses_it(NoOrder, wrong, by_order, PROGRAM, START, wrong, most=-1)

    def test_wrong_bounds(self):
        for wrong in [-1, -200, True, False, None, "5", 1.0, [1], {}, EqualToAll()]:
            self.refuses_it(NoNumber, wrong, by_order, PROGRAM, START, ["p", "q", "r"], most=wrong)
            self.refuses_it(NoNumber, wrong, by_order, PROGRAM, END, ["p", "q", "r"], most=wrong)
        self.assertRaises(TypeError, by_order, PROGRAM, START, ["p", "q", "r"], 5)

    def test_bounds(self):
        order = ["r", "p", "q"]
        self.assertEqual(len(by_order(PROGRAM, START, order, most=5)), 5)
        for most in range(5):
            self.refuses(TooMany, most, by_order, PROGRAM, START, order, most=most)
        self.assertEqual(by_order(PROGRAM, END, order, most=0), [])
        self.refuses(TooMany, 0, by_order, PROGRAM, BEHIND_PQR, order, most=0)
        self.assertEqual(by_order(PROGRAM, BEHIND_PQR, order, most=1), ["turn"])

    def test_a_run_that_never_ends(self):
        state = start_state(BLINKING, [0, 0, 0], ["a"])
        for most in (0, 1, 7, 200, 10 ** 40):
            self.refuses(TooMany, most, by_order, BLINKING, state, ["p", "q"], most=most)
        self.refuses(TooMany, 200, by_order, BLINKING, state, ["q", "p"])

    def test_a_long_run(self):
        # b goes from 3 to 2 and to 1, each time p wakes itself, and the last turn changes nothing.
        program = Program([Process("p", ["a", "b"], ["b <= (b=c?d:(b=d?a:b))"])], ["a", "c", "d"])
        state = start_state(program, [1, 3, 3, 2], ["a"])
        run = ["p", "turn"] * 3
        self.assertEqual(by_order(program, state, ["p"], most=6), run)
        self.refuses(TooMany, 5, by_order, program, state, ["p"], most=5)


if __name__ == "__main__":
    unittest.main()
