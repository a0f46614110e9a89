"""Programs."""

import unittest

from checks import Checks, EqualToAll
from tiedsteps.errors import NoName, NoPlace, NoProgram
from tiedsteps.processes import Deed, Process
from tiedsteps.programs import Program

P = Process("p", ["a"], ["c := (a=b?1:c)", "d <= 0"])
Q = Process("q", ["c", "b"], ["d := c", "d := 1", "c <= d"])
R = Process("r", ["d"], ["c := 1"])
NO_NAMES = ["x", "", "P", "turn", "a", 0, 1, True, None, [], ["p"], {}, ("p",), b"p", P, EqualToAll()]


def idle(name):
    """A process that adds no variable beside a and b, no constant and no deed at once."""
    return Process(name, ["a"], ["b <= a"])


def busy(name, many):
    """As idle, with so many deeds at once."""
    return Process(name, ["a"], ["b := a"] * many)


def small():
    return Program([P, Q], ["b", "a"])


class LimitsTest(Checks):
    def refused(self, part, processes, inputs):
        self.refuses(NoProgram, part, Program, processes, inputs)

    def test_processes(self):
        five = [idle(name) for name in "pqrst"]
        self.assertEqual(len(Program(five, ["a"])), 5)
        self.assertEqual(len(Program(tuple(five[:1]), ("a",))), 1)
        self.refused("processes", five + [idle("u")], ["a"])
        for wrong in ([], (), None, 1, "p", True, {}, P, {"p": P}, iter([P]), [P, None], [P, "q"], [["p"]], [P, Deed],
                      [Deed("a", "b")], [small()], small()):
            self.refused("processes", wrong, ["a"])

    def test_names(self):
        self.refused("names", [idle("p"), idle("p")], ["a"])
        self.refused("names", [P, Q, idle("p")], ["a"])

    def test_inputs(self):
        process = Process("p", ["a"], ["z := a"])
        self.assertEqual(Program([process], ["c", "a", "b"]).inputs(), ["c", "a", "b"])
        self.assertEqual(Program(inputs=("b",), processes=[process]).inputs(), ["b"])
        rows = [[], (), ["a", "b", "c", "d"], ["a", "a"], ["a", "b", "a"], ["a", "z"], ["z"]]
        rows += [["a", wrong] for wrong in ("", "A", "abcdefghi", "a1", 1, True, None, ["b"], ("b",), {})]
        for wrong in rows + [None, "a", 1, True, {}, {"a": 1}, iter(["a"]), process]:
            with self.subTest(wrong):
                self.refused("inputs", [process], wrong)

    def test_an_input_that_is_written_at_the_end(self):
        self.refused("inputs", [idle("p"), Process("q", ["a"], ["c := a", "a <= b"])], ["a"])

    def test_an_input_may_be_called_as_a_process(self):
        self.assertEqual(Program([Process("a", ["a"], ["turn := a"])], ["a"]).variables(), ["a", "turn"])

    def test_variables(self):
        waits = Process("p", ["e", "d", "c"], ["b := a"])
        self.assertEqual(Program([waits], ["a"]).variables(), ["a", "b", "c", "d", "e"])
        self.refused("variables", [waits], ["a", "f"])
        self.refused("variables", [waits, Process("q", ["f"], ["b := a"])], ["a"])
        self.refused("variables", [waits, Process("q", ["c"], ["b := (a=f?a:b)"])], ["a"])
        self.refused("variables", [waits, Process("q", ["c"], ["f <= a"])], ["a"])

    def test_constants(self):
        two = Process("p", ["a"], ["b := 9", "b <= (a=9?0:0)"])
        self.assertEqual(Program([two, Process("q", ["a"], ["b := 0"])], ["a"]).constants(), [0, 9])
        self.refused("constants", [two, Process("q", ["a"], ["b <= 1"])], ["a"])
        self.refused("constants", [Process("p", ["a"], ["b := (a=1?2:3)"])], ["a"])

    def test_deeds_at_once(self):
        eight = [busy("p", 4), busy("q", 3), busy("r", 1)]
        self.assertEqual(len(Program(eight + [idle("s")], ["a"]).places()), 8)
        self.refused("deeds", [busy("p", 4), busy("q", 4), busy("r", 1)], ["a"])

    def test_the_first_wrong_part_is_told(self):
        names = [busy("p", 4), busy("p", 4), Process("p", ["a"], ["b := (c=d?1:2)", "e := 3", "f := f"])]
        self.refused("processes", names + [None], [])
        self.refused("names", names, [])
        deeds = [busy("p", 4), busy("q", 4), Process("r", ["a"], ["b := (c=d?1:2)", "e := 3", "f := f"])]
        self.refused("inputs", deeds, ["a", "b"])
        self.refused("variables", deeds, ["a"])
        constants = [busy("p", 4), busy("q", 4), Process("r", ["a"], ["b := (a=1?2:3)"])]
        self.refused("constants", constants, ["a"])


class TellingTest(Checks):
    def test_what_it_tells(self):
        program = small()
        self.assertEqual(program.names(), ["p", "q"])
        self.assertEqual(program.listed(), ["p", "q"])
        self.assertEqual(list(program), ["p", "q"])
        self.assertEqual(len(program), 2)
        self.assertEqual(program.inputs(), ["b", "a"])
        self.assertEqual(program.variables(), ["a", "b", "c", "d"])
        self.assertEqual(program.constants(), [0, 1])
        self.assertEqual((program["p"], program["q"]), (P, Q))

    def test_names_are_in_the_order_of_the_processes(self):
        program = Program([idle("z"), idle("b"), idle("a")], ["a"])
        self.assertEqual((program.names(), list(program), program.listed()), (["z", "b", "a"],) * 3)
        self.assertEqual([program[name].name for name in program], ["z", "b", "a"])

    def test_an_input_that_nobody_reads_is_a_variable(self):
        self.assertEqual(Program([idle("p")], ["x", "a"]).variables(), ["a", "b", "x"])
        self.assertEqual(Program([idle("p")], ["x"]).constants(), [])

    def test_told_lists_are_new(self):
        program = small()
        self.new_each_time(program.names, ["p", "q"])
        self.new_each_time(program.listed, ["p", "q"])
        self.new_each_time(program.inputs, ["b", "a"])
        self.new_each_time(program.variables, ["a", "b", "c", "d"])
        self.new_each_time(program.constants, [0, 1])
        self.new_each_time(program.places, [("p", 0), ("q", 0), ("q", 1)])
        self.assertEqual((list(program), program), (["p", "q"], small()))

    def test_what_was_handed_in_may_be_changed(self):
        processes, inputs = [P, Q], ["b", "a"]
        program = Program(processes, inputs)
        processes.pop()
        inputs.append("c")
        self.assertEqual(program, small())
        self.assertEqual((program.names(), program.inputs()), (["p", "q"], ["b", "a"]))

    def test_what_was_handed_in_stays(self):
        processes, inputs, places = [Q, P], ["b", "a"], [("q", 1), ("p", 0)]
        program = Program(processes, inputs)
        program.delayed(places)
        self.assertEqual((processes, inputs, places), ([Q, P], ["b", "a"], [("q", 1), ("p", 0)]))
        self.assertEqual(program, Program([Q, P], ["b", "a"]))

    def test_wrong_names(self):
        for wrong in NO_NAMES + [slice(0, 1)]:
            with self.subTest(wrong):
                self.refuses_it(NoName, wrong, small().__getitem__, wrong)

    def test_in(self):
        self.assertIs("p" in small(), True)
        self.assertIs("q" in small(), True)
        for value in NO_NAMES:
            self.assertIs(value in small(), False)

    def test_equal_is_processes_and_inputs_in_order(self):
        self.assertTrue(small() == Program((P, Q), ("b", "a")))
        self.assertFalse(small() != small())
        others = [Program([Q, P], ["b", "a"]), Program([P, Q], ["a", "b"]), Program([P, Q], ["b"]),
                  Program([P], ["b", "a"]), Program([P, Q.delayed(0)], ["b", "a"]), ["p", "q"], "p", None, P,
                  EqualToAll()]
        for other in others:
            self.assertIs(small() == other, False)
            self.assertIs(small() != other, True)


class ChangingTest(Checks):
    def test_or(self):
        one, other = Program([Q], ["b"]), Program([P, R], ["a", "b"])
        self.assertEqual(one | other, Program([Q, P, R], ["b", "a"]))
        self.assertEqual(other | one, Program([P, R, Q], ["a", "b"]))
        self.assertEqual((one, other), (Program([Q], ["b"]), Program([P, R], ["a", "b"])))

    def test_or_keeps_the_order_of_the_inputs(self):
        one = Program([idle("p")], ["z", "a"])
        other = Program([idle("q")], ["y", "a"])
        self.assertEqual((one | other).inputs(), ["z", "a", "y"])

    def test_or_raises_as_the_class(self):
        four = Program([idle(name) for name in "pqrs"], ["a"])
        wide = Program([Process("x", ["a"], ["c := (d=d?d:e)"])], ["a"])
        for part, one, other in (
            ("processes", four, Program([idle("t"), idle("u")], ["a"])),
            ("names", four, Program([idle("s")], ["a"])),
            ("inputs", four, Program([Process("t", ["a"], ["c := a"])], ["b"])),
            ("inputs", Program([idle("p")], ["x", "y"]), Program([Process("t", ["z"], ["b := z"])], ["z", "w"])),
            ("variables", wide, Program([idle("t")], ["f"])),
            ("constants", small(), Program([Process("t", ["a"], ["c := 2"])], ["a"])),
            ("deeds", Program([busy("p", 4), busy("q", 4)], ["a"]), Program([busy("r", 1)], ["a"])),
        ):
            with self.subTest(part):
                self.refuses(NoProgram, part, one.__or__, other)
        self.assertEqual(len(four | Program([idle("t")], ["a"])), 5)

    def test_or_of_what_is_no_program(self):
        for other in (None, [P], P, {}, 1):
            with self.assertRaises(TypeError):
                small() | other

    def test_without(self):
        program = Program([P, Q, R], ["b", "a"])
        self.assertEqual(program.without("q"), Program([P, R], ["b", "a"]))
        self.assertEqual(program.without(name="p"), Program([Q, R], ["b", "a"]))
        self.assertEqual(program, Program([P, Q, R], ["b", "a"]))

    def test_without_a_wrong_name(self):
        for wrong in NO_NAMES:
            self.refuses_it(NoName, wrong, small().without, wrong)
            self.refuses_it(NoName, wrong, Program([P], ["a"]).without, wrong)

    def test_without_the_last_process(self):
        self.refuses(NoProgram, "processes", Program([P], ["a"]).without, "p")

    def test_replaced(self):
        program = Program([P, Q, R], ["b", "a"])
        process = Process("q", ["d"], ["c := 1"])
        self.assertEqual(program.replaced(process), Program([P, process, R], ["b", "a"]))
        self.assertEqual(program.replaced(process=P), program)
        self.assertEqual(program, Program([P, Q, R], ["b", "a"]))

    def test_replaced_by_no_process_of_such_a_name(self):
        for wrong in [R, "p", "q", None, True, 0, [], [P], {}, ("p",), Deed("a", "b"), small(), EqualToAll()]:
            self.refuses_it(NoName, wrong, small().replaced, wrong)

    def test_replaced_raises_as_the_class(self):
        for part, deeds in (
            ("inputs", ["a <= 1"]),
            ("variables", ["x := (x=y?y:y)"]),
            ("constants", ["d := 2", "d := 3"]),
        ):
            self.refuses(NoProgram, part, small().replaced, Process("p", ["a"], deeds))
        many = Program([busy("p", 4), busy("q", 4), idle("r")], ["a"])
        self.refuses(NoProgram, "deeds", many.replaced, busy("r", 1))


class PlacesTest(Checks):
    def test_places(self):
        self.assertEqual(small().places(), [("p", 0), ("q", 0), ("q", 1)])
        self.assertEqual(Program([Q, P], ["a"]).places(), [("q", 0), ("q", 1), ("p", 0)])
        self.assertEqual(Program([idle("p")], ["a"]).places(), [])
        late = Process("z", ["a"], ["b <= a", "b := a", "b <= a", "b := a"])
        self.assertEqual(Program([late], ["a"]).places(), [("z", 1), ("z", 3)])

    def test_delayed(self):
        program = small()
        self.assertEqual(program.delayed([]), program)
        self.assertEqual(program.delayed(()), program)
        self.assertEqual(program.delayed([("q", 1)]), Program([P, Q.delayed(1)], ["b", "a"]))
        self.assertEqual(program.delayed((("q", 0), ("p", 0))), Program([P.delayed(0), Q.delayed(0)], ["b", "a"]))
        self.assertEqual(program.delayed(places=[("q", 1), ("q", 1)]), Program([P, Q.delayed(1)], ["b", "a"]))
        self.assertEqual(program.delayed(program.places()).places(), [])
        self.assertEqual(program, small())

    def test_what_is_no_place(self):
        wrongs = [("p", 1), ("q", 2), ("p", 2), ("p", -1), ("x", 0), ("P", 0), ("p", False), ("q", True), ("q", None),
                  ("p", "0"), ("q", 1.0), (0, "p"), ("p",), ("p", 0, 0), (), ["p", 0], "p", "p0", 0, True, None, [],
                  {}, {"p": 0}, ([], 0), ("p", []), (P, 0), (EqualToAll(), 0), ("p", EqualToAll()), EqualToAll()]
        for wrong in wrongs:
            with self.subTest(wrong):
                self.refuses_it(NoPlace, wrong, small().delayed, [wrong])
                self.refuses_it(NoPlace, wrong, small().delayed, (("q", 1), wrong, "later"))

    def test_a_delayed_deed_has_no_place_any_more(self):
        program = small().delayed([("p", 0)])
        self.refuses(NoPlace, ("p", 0), program.delayed, [("q", 0), ("p", 0)])

    def test_what_is_no_list_or_tuple(self):
        for wrong in (None, "", "p", 0, True, {}, {("p", 0): 1}, iter([("p", 0)]), {("p", 0)}, P, small()):
            self.refuses(NoPlace, None, small().delayed, wrong)


if __name__ == "__main__":
    unittest.main()
