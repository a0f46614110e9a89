"""The states of starts, moves, and what they lead to."""

import unittest

import model
from checks import NO_NAMES, Checks, EqualToAll
from tiedsteps.errors import NoMove, NoStart
from tiedsteps.processes import Process
from tiedsteps.programs import Program
from tiedsteps.rules import is_end, moves, start_state, step, values_in

# Variables a b c d; p stands ahead of o, so that no order of names helps.
PROGRAM = Program(
    [
        Process("p", ["b", "a"], ["c := a", "d <= c"]),
        Process("o", ["c"], ["c := 1", "d <= 2", "d <= a"]),
        Process("q", ["d", "c"], ["d := c"]),
        Process("r", ["a"], ["c := c"]),
    ],
    ["b", "a"],
)
P, O, Q, R = 0, 1, 2, 3


def one(deeds, waits=("a",)):
    """A program of a process p with these deeds, and of w, x, y, z, each of which waits for b, c or d."""
    others = [Process("x", ["b"], ["e := e"]), Process("y", ["c"], ["e := e"]), Process("z", ["d"], ["e := e"])]
    return Program([Process("p", list(waits), deeds), *others], ["a"])


class StartTest(Checks):
    def test_awake_are_all_that_wait_for_a_changed_input(self):
        self.assertEqual(start_state(PROGRAM, [1, 2, 3, 4], ["a"]), ((1, 2, 3, 4), (P, R), ()))
        self.assertEqual(start_state(PROGRAM, (1, 2, 3, 4), ("b",)), ((1, 2, 3, 4), (P,), ()))
        self.assertEqual(start_state(program=PROGRAM, values=[0] * 4, changed=["b"]), ((0,) * 4, (P,), ()))

    def test_changed_in_any_order(self):
        for changed in (["a", "b"], ["b", "a"], ("a", "b"), ("b", "a")):
            self.assertEqual(start_state(PROGRAM, [-1, 10 ** 59, 3, 4], changed), ((-1, 10 ** 59, 3, 4), (P, R), ()))

    def test_an_input_for_which_nobody_waits(self):
        program = Program([Process("p", ["a"], ["b := a"])], ["a", "z"])
        self.assertEqual(start_state(program, [1, 2, 3], ["z"]), ((1, 2, 3), (), ()))

    def test_wrong_values(self):
        for wrong in [None, True, 1, "1234", {}, {1: 1, 2: 2, 3: 3, 4: 4}, [], (), [1, 2, 3], [1, 2, 3, 4, 5],
                      [1, 2, 3, "4"], [1, 2, 3, None], [1, 2, 3, True], (False, 1, 2, 3), (1, 2, 3, 4.0),
                      [1, 2, 3, [4]], iter([1, 2, 3, 4]), EqualToAll(), [1, 2, 3, EqualToAll()]]:
            with self.subTest(wrong):
                self.refuses_it(NoStart, wrong, start_state, PROGRAM, wrong, ["a"])
                self.refuses_it(NoStart, wrong, start_state, PROGRAM, wrong, ["c"])

    def test_wrong_changed(self):
        for wrong in [None, True, 1, "a", "ab", {}, {"a": 1}, {"a"}, [], (), ["c"], ["a", "c"], ["a", "a"], ("b", "b"),
                      ["a", "b", "a"], ["x"], [""], ["A"], ["p"], [None], [0], [True], [["a"]], [("a",)], iter(["a"]),
                      EqualToAll(), [EqualToAll()], ["a", EqualToAll()]]:
            with self.subTest(wrong):
                self.refuses_it(NoStart, wrong, start_state, PROGRAM, [1, 2, 3, 4], wrong)

    def test_what_was_handed_in_stays(self):
        values, changed = [4, 3, 2, 1], ["b", "a"]
        state = start_state(PROGRAM, values, changed)
        self.assertEqual((values, changed), ([4, 3, 2, 1], ["b", "a"]))
        values[0] = 9
        self.assertEqual(state, ((4, 3, 2, 1), (P, R), ()))


class ProcessMoveTest(Checks):
    def behind(self, deeds, values, waits=("a",)):
        program = one(deeds, waits)
        return step(program, start_state(program, values, ["a"]), "p")

    def test_a_write_at_once_changes_and_wakes(self):
        self.assertEqual(self.behind(["b := 7"], [0, 1, 2, 3, 4]), ((0, 7, 2, 3, 4), (1,), ()))
        self.assertEqual(self.behind(["d := a", "b := a"], [0, 1, 2, 3, 4]), ((0, 0, 2, 0, 4), (1, 3), ()))

    def test_a_write_that_changes_nothing_wakes_nobody(self):
        self.assertEqual(self.behind(["b := 7", "c := c"], [0, 7, 2, 3, 4]), ((0, 7, 2, 3, 4), (), ()))

    def test_a_change_that_is_written_back_wakes_all_the_same(self):
        self.assertEqual(self.behind(["b := 7", "b := 1"], [0, 1, 2, 3, 4]), ((0, 1, 2, 3, 4), (1,), ()))

    def test_a_term_has_the_value_behind_earlier_deeds_at_once(self):
        self.assertEqual(self.behind(["b := a", "c := b", "d := (b=c?5:6)"], [9, 1, 2, 3, 4]),
                         ((9, 9, 9, 5, 4), (1, 2, 3), ()))
        self.assertEqual(self.behind(["c := b", "b := a"], [9, 1, 2, 3, 4]), ((9, 9, 1, 3, 4), (1, 2), ()))

    def test_writes_at_the_end_change_nothing_yet(self):
        self.assertEqual(self.behind(["d <= a", "b <= 7", "c := b"], [0, 1, 2, 3, 4]),
                         ((0, 1, 1, 3, 4), (2,), ((1, 7), (3, 0))))

    def test_a_write_at_the_end_has_the_value_of_then(self):
        self.assertEqual(self.behind(["c <= b", "b := a", "d <= b"], [0, 1, 2, 3, 4]),
                         ((0, 0, 2, 3, 4), (1,), ((2, 1), (3, 0))))

    def test_a_later_write_at_the_end_takes_the_place_of_an_earlier_one(self):
        self.assertEqual(self.behind(["b <= a", "c <= 5", "b <= 6"], [0, 1, 2, 3, 4]),
                         ((0, 1, 2, 3, 4), (), ((1, 6), (2, 5))))

    def test_a_write_at_the_end_of_the_value_that_is_there(self):
        self.assertEqual(self.behind(["b <= b"], [0, 1, 2, 3, 4]), ((0, 1, 2, 3, 4), (), ((1, 1),)))

    def test_the_writer_is_not_woken_at_once(self):
        self.assertEqual(self.behind(["b := 7"], [0, 1, 2, 3, 4], ("a", "b")), ((0, 7, 2, 3, 4), (1,), ()))

    def test_it_is_no_more_awake_and_others_stay_awake(self):
        state = start_state(PROGRAM, [5, 0, 3, 4], ["a", "b"])
        state = step(PROGRAM, state, "p")
        self.assertEqual(state, ((5, 0, 5, 4), (O, Q, R), ((3, 5),)))
        state = step(PROGRAM, state, "q")
        self.assertEqual(state, ((5, 0, 5, 5), (O, R), ((3, 5),)))
        state = step(PROGRAM, state, "o")
        # o writes c, for which q waits, and twice d at the end, in the place of what p put there.
        self.assertEqual(state, ((5, 0, 1, 5), (Q, R), ((3, 5),)))
        state = step(program=PROGRAM, state=state, move="r")
        self.assertEqual(state, ((5, 0, 1, 5), (Q,), ((3, 5),)))
        self.assertEqual(step(PROGRAM, state, "q"), ((5, 0, 1, 1), (), ((3, 5),)))

    def test_one_that_is_awake_is_woken_once(self):
        program = Program([Process("p", ["a"], ["b := 1"]), Process("q", ["a", "b"], ["c := 1"])], ["a"])
        state = step(program, start_state(program, [0, 0, 0], ["a"]), "p")
        self.assertEqual(state, ((0, 1, 0), (1,), ()))
        self.assertEqual(step(program, state, "q"), ((0, 1, 1), (), ()))

    def test_one_wakes_another_again(self):
        program = Program([Process("p", ["a"], ["b := 1"]), Process("q", ["a", "b"], ["c := 1"])], ["a"])
        state = step(program, start_state(program, [0, 0, 0], ["a"]), "q")
        self.assertEqual(step(program, state, "p"), ((0, 1, 1), (1,), ()))


class TurnTest(Checks):
    PROGRAM = Program(
        [
            Process("z", ["a"], ["c <= b", "b <= c"]),
            Process("y", ["b"], ["d <= b"]),
            Process("x", ["c", "b"], ["d <= 1"]),
            Process("w", ["d"], ["d <= 1"]),
        ],
        ["a"],
    )

    def test_all_is_written_together_and_all_that_wait_are_awake(self):
        state = step(self.PROGRAM, start_state(self.PROGRAM, [0, 1, 2, 3], ["a"]), "z")
        self.assertEqual(state, ((0, 1, 2, 3), (), ((1, 2), (2, 1))))
        self.assertEqual(moves(self.PROGRAM, state), ["turn"])
        self.assertIs(is_end(self.PROGRAM, state), False)
        self.assertEqual(step(self.PROGRAM, state, "turn"), ((0, 2, 1, 3), (1, 2), ()))

    def test_a_value_that_is_the_same_as_before_wakes_nobody(self):
        state = step(self.PROGRAM, start_state(self.PROGRAM, [0, 1, 1, 3], ["a"]), "z")
        self.assertEqual(state, ((0, 1, 1, 3), (), ((1, 1), (2, 1))))
        state = step(self.PROGRAM, state, "turn")
        self.assertEqual(state, ((0, 1, 1, 3), (), ()))
        self.assertIs(is_end(self.PROGRAM, state), True)

    def test_one_that_wrote_at_the_end_may_wake_itself(self):
        state = ((0, 0, 0, 0), (3,), ())
        state = step(self.PROGRAM, state, "w")
        state = step(self.PROGRAM, state, "turn")
        self.assertEqual(state, ((0, 0, 0, 1), (3,), ()))
        state = step(self.PROGRAM, step(self.PROGRAM, state, "w"), "turn")
        self.assertEqual(state, ((0, 0, 0, 1), (), ()))

    def test_what_changed_at_once_meanwhile_is_not_changed_by_the_same_value(self):
        program = Program(
            [Process("p", ["a"], ["b <= 1"]), Process("q", ["a"], ["b := 1"]), Process("r", ["b"], ["c := 1"])], ["a"]
        )
        state = model.played(program, start_state(program, [0, 0, 0], ["a"]), ["p", "q", "r"])
        self.assertEqual(state, ((0, 1, 1), (), ((1, 1),)))
        self.assertEqual(step(program, state, "turn"), ((0, 1, 1), (), ()))

    def test_no_turn_while_one_is_awake(self):
        state = step(PROGRAM, start_state(PROGRAM, [5, 0, 3, 4], ["a", "b"]), "p")
        self.assertEqual(moves(PROGRAM, state), ["o", "q", "r"])
        self.refuses(NoMove, None, step, PROGRAM, state, "turn")


class MovesTest(Checks):
    def test_moves_stand_as_the_processes(self):
        state = start_state(PROGRAM, [5, 0, 3, 4], ["a", "b"])
        self.assertEqual(moves(PROGRAM, state), ["p", "r"])
        self.assertEqual(moves(program=PROGRAM, state=step(PROGRAM, state, "p")), ["o", "q", "r"])
        self.new_each_time(lambda: moves(PROGRAM, state), ["p", "r"])

    def test_an_end(self):
        state = ((1, 2, 3, 4), (), ())
        self.assertEqual(moves(PROGRAM, state), [])
        self.assertIs(is_end(program=PROGRAM, state=state), True)
        self.assertIs(is_end(PROGRAM, ((1, 2, 3, 4), (O,), ())), False)
        self.assertIs(is_end(PROGRAM, ((1, 2, 3, 4), (), ((2, 3),))), False)
        for move in ["turn", *PROGRAM.names()]:
            self.refuses(NoMove, None, step, PROGRAM, state, move)

    def test_what_is_not_possible(self):
        state = start_state(PROGRAM, [5, 0, 3, 4], ["b"])
        for wrong in ["o", "q", "r", "turn", "a", P, *NO_NAMES]:
            with self.subTest(wrong):
                self.refuses(NoMove, None, step, PROGRAM, state, wrong)
        turn = ((0, 0, 0, 0), (), ((2, 1),))
        for wrong in ["p", "o", "Turn", "turn ", *NO_NAMES]:
            with self.subTest(wrong):
                self.refuses(NoMove, None, step, PROGRAM, turn, wrong)

    def test_a_process_called_as_a_variable(self):
        program = Program([Process("b", ["a"], ["b := a"]), Process("a", ["b"], ["c := b"])], ["a"])
        state = start_state(program, [1, 2, 3], ["a"])
        self.assertEqual(moves(program, state), ["b"])
        self.assertEqual(step(program, state, "b"), ((1, 1, 3), (1,), ()))

    def test_values_in(self):
        state = start_state(PROGRAM, [5, -1, 10 ** 59, 4], ["b"])
        told = values_in(program=PROGRAM, state=state)
        self.assertEqual(list(told.items()), [("a", 5), ("b", -1), ("c", 10 ** 59), ("d", 4)])
        told["a"] = 0
        self.assertEqual(values_in(PROGRAM, state)["a"], 5)
        behind = step(PROGRAM, state, "p")
        self.assertEqual(list(values_in(PROGRAM, behind).values()), [5, -1, 5, 4])

    def test_the_same_is_told_as_by_the_model(self):
        for program in model.some_programs(60, 1, processes=4):
            inputs = program.inputs()
            values = [3 * place for place in range(len(program.variables()))]
            for changed in (inputs[:1], inputs):
                state = start_state(program, values, changed)
                self.assertEqual(state, model.start_state(program, values, changed))
                for held, behind in list(model.table(program, state).items())[:200]:
                    self.assertEqual(moves(program, held), list(behind))
                    self.assertEqual([step(program, held, move) for move in behind], list(behind.values()))
                    self.assertEqual(is_end(program, held), behind == {})


if __name__ == "__main__":
    unittest.main()
