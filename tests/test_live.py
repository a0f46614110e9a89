"""Simulators, and the traces of several orders."""

import random
import unittest

import model
from checks import NO_NAMES, Checks, EqualToAll, program_of
from tiedsteps.errors import NeverEnds, NoName, NoNumber, NoOrder, NoPlan, NoStart, NothingBack, TiedError
from tiedsteps.live import Simulator, traces
from tiedsteps.rules import start_state
from tiedsteps.verdicts import is_sole

LINE = program_of("p a: b := a", "q b: c := b")
# Who goes ahead is seen in b.
RACE = program_of("p a: b := 1", "q a: b := 2")
# Never ends where a is 5.
BLINK = program_of("p ab: b <= (a=5?(b=0?5:0):b)", "q c: d := c", inputs="ac")
NO_VALUES = [None, True, 5, "", "123", (), [], [1, 2], [1, 2, 3, 4], [1, 2, True], [1, 2, "3"], [1, 2, None], [1, 2, 3.0],
             {}, {0: 1, 1: 2, 2: 3}, EqualToAll(), [1, 2, EqualToAll()]]
NO_ORDERS = [True, 5, "", "pq", [], (), ["p"], ["p", "p"], ["p", "q", "p"], ["p", "q", "turn"], ["p", "x"], ["p", 1], {},
             {"p": 1, "q": 2}, {"p", "q"}, EqualToAll(), ["p", EqualToAll()], [["p"], ["q"]]]
NO_NUMBERS = [None, True, False, "5", "", 1.0, [5], (5,), {}, EqualToAll()]


class Kept(Exception):
    """An exception of the tests' own."""


def all_told(simulator):
    """All that can be asked of a simulator."""
    return (simulator.now(), simulator.moment, simulator.order, simulator.planned(), simulator.trace(), len(simulator))


def line(*values):
    return Simulator(LINE, values or [0, 0, 0])


class SimulatorTest(Checks):
    def test_at_first(self):
        for values in ([1, 2, 3], (1, 2, 3)):
            told = all_told(Simulator(program=LINE, values=values, order=None))
            self.assertEqual(told, ({"a": 1, "b": 2, "c": 3}, 0, ("p", "q"), [], [], 0))
        self.assertEqual(all_told(Simulator(LINE, [1, 2, 3], order=["q", "p"]))[2], ("q", "p"))
        self.assertEqual(Simulator(LINE, [1, 2, 3], order=("p", "q")).order, ("p", "q"))

    def test_wrong_values_ahead_of_wrong_orders(self):
        for wrong in NO_VALUES:
            self.refuses_it(NoStart, wrong, Simulator, LINE, wrong)
            self.refuses_it(NoStart, wrong, Simulator, LINE, wrong, order=["p"])
        for wrong in NO_ORDERS:
            self.refuses_it(NoOrder, wrong, Simulator, LINE, [1, 2, 3], order=wrong)
        self.assertRaises(TypeError, Simulator, LINE, [1, 2, 3], ["p", "q"])

    def test_keeps_copies(self):
        values, order = [1, 2, 3], ["q", "p"]
        simulator = Simulator(LINE, values, order=order)
        values.append(4)
        order.reverse()
        self.assertEqual(all_told(simulator)[:3], ({"a": 1, "b": 2, "c": 3}, 0, ("q", "p")))

    def test_told_lists_and_dicts_are_new(self):
        simulator = line()
        simulator.put("a", 1)
        simulator.run()
        simulator.plan(3, "a", 7)
        self.new_each_time(simulator.planned, [(3, "a", 7)])
        self.new_each_time(simulator.trace, [(0, (1, 1, 1))])
        simulator.now()["a"] = 9
        self.assertEqual(simulator.now(), {"a": 1, "b": 1, "c": 1})
        self.assertEqual(list(simulator.now()), ["a", "b", "c"])
        simulator.put("a", 2)
        run = simulator.run()
        run.append("changed")
        self.assertEqual(all_told(simulator)[0], {"a": 2, "b": 2, "c": 2})

    def test_a_value(self):
        simulator = line(1, 2, 3)
        self.assertEqual([simulator[name] for name in "abc"], [1, 2, 3])
        for wrong in [*NO_NAMES, "p", "d", ("a",), 1]:
            self.refuses_it(NoName, wrong, lambda: simulator[wrong])

    def test_not_iterated_over(self):
        self.assertRaises(TypeError, list, line())

    def test_moment_cannot_be_assigned(self):
        self.assertRaises(AttributeError, setattr, line(), "moment", 3)


class PutTest(Checks):
    def test_put(self):
        simulator = line(1, 2, 3)
        self.assertIsNone(simulator.put("a", 10 ** 59))
        self.assertEqual(all_told(simulator), ({"a": 10 ** 59, "b": 2, "c": 3}, 0, ("p", "q"), [], [], 1))
        simulator.put(name="a", value=-5)
        self.assertEqual((simulator["a"], len(simulator)), (-5, 2))
        simulator.put("a", -5)
        self.assertEqual((simulator["a"], len(simulator)), (-5, 3))

    def test_wrong_ones(self):
        simulator = line(1, 2, 3)
        for wrong in [*NO_NAMES, "b", "c", "p", "A"]:
            self.refuses_it(NoName, wrong, simulator.put, wrong, 5)
            self.refuses_it(NoName, wrong, simulator.put, wrong, None)
        for wrong in NO_NUMBERS:
            self.refuses_it(NoNumber, wrong, simulator.put, "a", wrong)
        self.assertEqual(all_told(simulator), all_told(line(1, 2, 3)))


class RunTest(Checks):
    def test_without_a_change(self):
        simulator = line(1, 2, 3)
        self.assertEqual(simulator.run(), [])
        self.assertEqual(all_told(simulator), ({"a": 1, "b": 2, "c": 3}, 0, ("p", "q"), [], [], 1))
        simulator.put("a", 1)
        self.assertEqual(simulator.run(), [])
        simulator.put("a", 4)
        simulator.put("a", 1)
        self.assertEqual(simulator.run(), [])
        self.assertEqual(simulator.trace(), [])

    def test_of_what_changed_since_the_last_run(self):
        simulator = line(1, 2, 3)
        simulator.put("a", 5)
        self.assertEqual(simulator.run(), ["p", "q"])
        self.assertEqual(simulator.run(), [])
        simulator.put("a", 1)
        self.assertEqual(simulator.run(), ["p", "q"])
        self.assertEqual(simulator.trace(), [(0, (5, 5, 5)), (0, (1, 1, 1))])
        self.assertEqual(simulator.moment, 0)

    def test_a_run_without_moves_settles_the_inputs(self):
        # Nobody waits for a, but p reads it.
        program = program_of("p b: c := a", inputs="ab")
        simulator = Simulator(program, [0, 0, 0])
        simulator.put("a", 5)
        self.assertEqual(simulator.run(), [])
        self.assertEqual(simulator.trace(), [])
        simulator.put("a", 0)
        self.assertEqual(simulator.run(), [])
        simulator.put("a", 5)
        simulator.put("b", 1)
        self.assertEqual(simulator.run(), ["p"])
        self.assertEqual(simulator.trace(), [(0, (5, 1, 5))])

    def test_of_several_inputs(self):
        program = program_of("p a: c := a", "q b: c := b", inputs="ba")
        simulator = Simulator(program, [0, 0, 0])
        simulator.put("b", 1)
        self.assertEqual(simulator.run(), ["q"])
        simulator.put("b", 2)
        simulator.put("a", 3)
        self.assertEqual(simulator.run(), ["p", "q"])
        self.assertEqual(simulator.now(), {"a": 3, "b": 2, "c": 2})

    def test_by_the_order(self):
        for order, told in ((["p", "q"], 2), (["q", "p"], 1)):
            simulator = Simulator(RACE, [0, 0], order=order)
            simulator.put("a", 5)
            self.assertEqual(simulator.run(), order)
            self.assertEqual(simulator["b"], told)

    def test_the_turn(self):
        simulator = Simulator(program_of("p a: b <= a", "q b: c := b"), [0, 0, 0])
        simulator.put("a", 5)
        self.assertEqual(simulator.run(), ["p", "turn", "q"])
        self.assertEqual(simulator.trace(), [(0, (5, 5, 5))])

    def test_never_ends(self):
        simulator = Simulator(BLINK, [0, 0, 0, 0])
        simulator.put("c", 4)
        simulator.put("a", 5)
        ahead = all_told(simulator)
        # Behind p, q, turn, p, turn, p is the state behind p, q; behind q, p, turn, p, turn that behind q.
        self.refuses(NeverEnds, 6, simulator.run)
        self.assertEqual(all_told(simulator), ahead)
        self.refuses(NeverEnds, 6, simulator.run)
        simulator.order = ("q", "p")
        self.refuses(NeverEnds, 5, simulator.run)
        simulator.put("a", 0)
        self.assertEqual(simulator.run(), ["q"])
        self.assertEqual(simulator.now(), {"a": 0, "b": 0, "c": 4, "d": 4})

    def test_how_many_moves_until_a_state_came_twice(self):
        for program in model.some_programs(150, 91):
            simulator = Simulator(program, [0] * len(program.variables()))
            for name in program.inputs():
                simulator.put(name, 5)
            state = start_state(program, list(simulator.now().values()), program.inputs())
            run, met = [], []
            while state not in met and model.next_states(program, state):
                met.append(state)
                move = next(iter(model.next_states(program, state)))
                run.append(move)
                state = model.next_states(program, state)[move]
            if state in met:
                self.refuses(NeverEnds, len(run), simulator.run)
            else:
                self.assertEqual(simulator.run(), run)
                self.assertEqual(tuple(simulator.now().values()), state[0])


class OrderTest(Checks):
    def test_assigned(self):
        simulator = Simulator(RACE, [0, 0])
        order = ["q", "p"]
        simulator.order = order
        order.append("x")
        self.assertEqual((simulator.order, len(simulator)), (("q", "p"), 1))
        simulator.order = ("q", "p")
        self.assertEqual((simulator.order, len(simulator)), (("q", "p"), 2))
        simulator.put("a", 5)
        self.assertEqual(simulator.run(), ["q", "p"])

    def test_wrong_ones(self):
        simulator = Simulator(RACE, [0, 0], order=["q", "p"])
        for wrong in [None, *NO_ORDERS]:
            self.refuses_it(NoOrder, wrong, setattr, simulator, "order", wrong)
        self.assertEqual(all_told(simulator), all_told(Simulator(RACE, [0, 0], order=["q", "p"])))


class PlanTest(Checks):
    def test_by_moments_then_as_planned(self):
        simulator = line()
        for moment, value in ((7, 1), (3, 2), (7, 3), (3, 4), (10 ** 40, 5), (1, 6)):
            self.assertIsNone(simulator.plan(moment, "a", value))
        told = [(1, "a", 6), (3, "a", 2), (3, "a", 4), (7, "a", 1), (7, "a", 3), (10 ** 40, "a", 5)]
        self.assertEqual(simulator.planned(), told)
        self.assertEqual((simulator.now(), len(simulator), simulator.moment), ({"a": 0, "b": 0, "c": 0}, 6, 0))

    def test_wrong_ones(self):
        simulator = line()
        simulator.go(3)
        ahead = all_told(simulator)
        for wrong in [*NO_NUMBERS, 3, 2, 0, -1, -10 ** 40]:
            self.refuses_it(NoPlan, wrong, simulator.plan, wrong, "a", 5)
            self.refuses_it(NoPlan, wrong, simulator.plan, wrong, "x", None)
        for wrong in [*NO_NAMES, "b", "c", "p"]:
            self.refuses_it(NoName, wrong, simulator.plan, 4, wrong, 5)
            self.refuses_it(NoName, wrong, simulator.plan, 4, wrong, None)
        for wrong in NO_NUMBERS:
            self.refuses_it(NoNumber, wrong, simulator.plan, 4, "a", wrong)
        self.assertEqual(all_told(simulator), ahead)
        simulator.plan(moment=4, name="a", value=5)
        self.assertEqual(simulator.planned(), [(4, "a", 5)])


class GoTest(Checks):
    def test_over_several_moments(self):
        simulator = line()
        simulator.put("a", 9)
        simulator.plan(5, "a", 2)
        simulator.plan(3, "a", 1)
        simulator.plan(9, "a", 4)
        simulator.plan(8, "a", 3)
        self.assertIsNone(simulator.go(8))
        told = [(0, (9, 9, 9)), (3, (1, 1, 1)), (5, (2, 2, 2)), (8, (3, 3, 3))]
        self.assertEqual(all_told(simulator), ({"a": 3, "b": 3, "c": 3}, 8, ("p", "q"), [(9, "a", 4)], told, 6))
        simulator.go(moment=20)
        self.assertEqual(simulator.trace(), [*told, (9, (4, 4, 4))])
        self.assertEqual((simulator.moment, simulator.planned()), (20, []))

    def test_runs_this_moment_first(self):
        simulator = line()
        simulator.go(4)
        simulator.put("a", 5)
        simulator.go(4)
        self.assertEqual(simulator.trace(), [(4, (5, 5, 5))])
        simulator.put("a", 6)
        simulator.go(7)
        self.assertEqual(simulator.trace()[1:], [(4, (6, 6, 6))])
        self.assertEqual(simulator.moment, 7)

    def test_all_of_a_moment_is_put_in_order_and_then_runs(self):
        program = program_of("p ab: c := (a=b?1:2)", inputs="ab")
        simulator = Simulator(program, [0, 0, 0])
        for name, value in (("a", 5), ("b", 7), ("a", 7)):
            simulator.plan(2, name, value)
        simulator.go(2)
        self.assertEqual(simulator.trace(), [(2, (7, 7, 1))])

    def test_a_moment_at_which_nothing_changed_does_nothing(self):
        simulator = line()
        simulator.plan(2, "a", 5)
        simulator.plan(3, "a", 5)
        simulator.plan(4, "a", 6)
        simulator.plan(4, "a", 5)
        simulator.go(9)
        self.assertEqual(simulator.trace(), [(2, (5, 5, 5))])

    def test_a_run_without_moves_settles_the_inputs(self):
        program = program_of("p b: c := a", "q a: d := (a=b?1:d)", inputs="ab")
        simulator = Simulator(program, [0, 0, 0, 0])
        simulator.put("a", 3)
        simulator.plan(2, "b", 3)
        simulator.go(2)
        self.assertEqual(simulator.trace(), [(0, (3, 0, 0, 0)), (2, (3, 3, 3, 0))])

    def test_wrong_ones(self):
        simulator = line()
        simulator.go(3)
        for wrong in [*NO_NUMBERS, 2, 0, -1]:
            self.refuses_it(NoPlan, wrong, simulator.go, wrong)
        self.assertEqual((simulator.moment, len(simulator)), (3, 1))

    def test_with_a_moment_that_never_ends(self):
        simulator = Simulator(BLINK, [0, 0, 0, 0])
        simulator.put("c", 1)
        simulator.plan(2, "c", 2)
        simulator.plan(4, "a", 5)
        simulator.plan(4, "c", 3)
        simulator.plan(6, "a", 0)
        ahead = all_told(simulator)
        for moment in (4, 5, 6, 100):
            self.refuses(NeverEnds, 6, simulator.go, moment)
            self.assertEqual(all_told(simulator), ahead)
        simulator.go(3)
        self.assertEqual(simulator.trace(), [(0, (0, 0, 1, 1)), (2, (0, 0, 2, 2))])
        ahead = all_told(simulator)
        self.refuses(NeverEnds, 6, simulator.go, 4)
        self.assertEqual(all_told(simulator), ahead)
        # Another value put for the same moment goes ahead of the ring.
        simulator.plan(4, "a", 0)
        simulator.go(6)
        self.assertEqual(simulator.trace()[2:], [(4, (0, 0, 3, 3))])

    def test_this_moment_never_ends(self):
        simulator = Simulator(BLINK, [0, 0, 0, 0])
        simulator.put("a", 5)
        ahead = all_told(simulator)
        for moment in (0, 5):
            self.refuses(NeverEnds, 4, simulator.go, moment)
            self.assertEqual(all_told(simulator), ahead)


class UndoTest(Checks):
    def test_each_kind_of_deed(self):
        simulator = line(1, 2, 3)
        seen = []
        deeds = [
            lambda: simulator.put("a", 5),
            lambda: simulator.run(),
            lambda: simulator.plan(3, "a", 7),
            lambda: setattr(simulator, "order", ["q", "p"]),
            lambda: simulator.put("a", 6),
            lambda: simulator.go(5),
            lambda: simulator.run(),
            lambda: simulator.go(5),
            lambda: setattr(simulator, "order", ["q", "p"]),
            lambda: simulator.put("a", 7),
            lambda: simulator.plan(6, "a", 1),
            lambda: simulator.plan(6, "a", 2),
            lambda: simulator.go(100),
        ]
        for deed in deeds:
            seen.append(all_told(simulator))
            deed()
        self.assertEqual(len(simulator), len(deeds))
        for told in seen[::-1]:
            self.assertIsNone(simulator.undo())
            self.assertEqual(all_told(simulator), told)
        self.refuses(NothingBack, 0, simulator.undo)
        self.assertEqual(all_told(simulator), seen[0])

    def test_what_had_settled_is_undone_too(self):
        simulator = line()
        simulator.put("a", 5)
        simulator.run()
        simulator.undo()
        self.assertEqual(simulator.run(), ["p", "q"])
        simulator.undo()
        simulator.undo()
        self.assertEqual(simulator.run(), [])

    def test_what_raises_does_not_count(self):
        simulator = Simulator(BLINK, [0, 0, 0, 0])
        simulator.put("a", 5)
        for call in (simulator.run, lambda: simulator.go(4), lambda: simulator.go(-1), lambda: simulator.put("a", None),
                     lambda: simulator.put("b", 1), lambda: simulator.plan(0, "a", 1), lambda: simulator["x"],
                     lambda: setattr(simulator, "order", ["p"])):
            self.assertRaises((TiedError, KeyError, RuntimeError), call)
        self.assertEqual(len(simulator), 1)
        simulator.undo()
        self.refuses(NothingBack, 0, simulator.undo)

    def test_another_way_behind_it(self):
        simulator = line()
        simulator.put("a", 5)
        simulator.run()
        simulator.undo()
        simulator.undo()
        simulator.put("a", 6)
        simulator.go(2)
        self.assertEqual((simulator.trace(), len(simulator)), ([(0, (6, 6, 6))], 2))


class TwinTest(Checks):
    def test_it_tells_the_same_and_goes_on_by_itself(self):
        simulator = Simulator(RACE, [0, 0], order=["q", "p"])
        simulator.put("a", 5)
        simulator.go(2)
        simulator.plan(4, "a", 7)
        simulator.put("a", 6)
        told = all_told(simulator)
        twin = simulator.twin()
        self.assertIsNot(twin, simulator)
        self.assertEqual(all_told(twin), told)
        self.assertEqual(twin.run(), ["q", "p"])
        twin.go(4)
        self.assertEqual(all_told(simulator), told)
        for _ in range(6):
            twin.undo()
        self.refuses(NothingBack, 0, twin.undo)
        self.assertEqual(all_told(simulator), told)
        twin = simulator.twin()
        while len(simulator):
            simulator.undo()
        self.assertEqual(all_told(twin), told)


class TrialTest(Checks):
    def played(self):
        simulator = line(1, 2, 3)
        simulator.put("a", 5)
        simulator.go(2)
        simulator.plan(9, "a", 8)
        return simulator

    def do(self, simulator):
        simulator.put("a", 6)
        simulator.run()
        simulator.order = ["q", "p"]
        simulator.plan(4, "a", 7)
        simulator.go(6)

    def test_taken_back(self):
        simulator = self.played()
        ahead = all_told(simulator)
        with simulator.trial() as held:
            self.assertIs(held, simulator)
            self.do(simulator)
            self.assertEqual(len(simulator), 8)
            self.assertNotEqual(all_told(simulator), ahead)
        self.assertEqual(all_told(simulator), ahead)
        # What had settled, too.
        simulator.put("a", 6)
        self.assertEqual(simulator.run(), ["p", "q"])
        simulator.go(9)
        self.assertEqual(simulator.trace()[-1], (9, (8, 8, 8)))

    def test_undone_within(self):
        simulator = self.played()
        ahead = all_told(simulator)
        with simulator.trial():
            while len(simulator):
                simulator.undo()
        self.assertEqual(all_told(simulator), ahead)
        simulator.undo()
        simulator.undo()
        self.assertEqual(simulator.now(), {"a": 5, "b": 2, "c": 3})

    def test_kept(self):
        simulator, other = self.played(), self.played()
        trial = simulator.trial()
        with trial:
            self.do(simulator)
            self.assertIsNone(trial.keep())
            simulator.put("a", 1)
        self.do(other)
        other.put("a", 1)
        self.assertEqual(all_told(simulator), all_told(other))
        while len(other):
            simulator.undo()
            other.undo()
            self.assertEqual(all_told(simulator), all_told(other))

    def test_left_by_an_exception(self):
        for keeps in (True, False):
            simulator = self.played()
            ahead = all_told(simulator)
            trial = simulator.trial()
            with self.assertRaises(Kept):
                with trial:
                    self.do(simulator)
                    if keeps:
                        trial.keep()
                    raise Kept
            self.assertEqual(all_told(simulator), ahead)

    def test_one_within_another(self):
        for outer_kept in (True, False):
            for inner_kept in (True, False):
                simulator = self.played()
                told = [all_told(simulator)]
                outer = simulator.trial()
                with outer:
                    simulator.put("a", 6)
                    told.append(all_told(simulator))
                    inner = simulator.trial()
                    with inner:
                        simulator.go(20)
                        told.append(all_told(simulator))
                        if inner_kept:
                            inner.keep()
                    self.assertEqual(all_told(simulator), told[2 if inner_kept else 1])
                    if outer_kept:
                        outer.keep()
                self.assertEqual(all_told(simulator), told[0 if not outer_kept else 2 if inner_kept else 1])

    def test_trying(self):
        simulator = self.played()
        ahead = all_told(simulator)
        seen = []

        def visitor(given):
            seen.append(given)
            self.do(given)
            return given.now()

        self.assertEqual(simulator.trying(visitor), {"a": 7, "b": 7, "c": 7})
        self.assertIs(seen[0], simulator)
        self.assertEqual(all_told(simulator), ahead)
        self.assertEqual(simulator.trying(visitor=visitor, kept=False), {"a": 7, "b": 7, "c": 7})
        self.assertEqual(all_told(simulator), ahead)
        self.assertEqual(simulator.trying(visitor, kept=True), {"a": 7, "b": 7, "c": 7})
        self.assertEqual(len(simulator), 8)
        for _ in range(5):
            simulator.undo()
        self.assertEqual(all_told(simulator), ahead)
        self.assertRaises(TypeError, simulator.trying, visitor, True)

    def test_kept_only_where_it_is_true_itself(self):
        for kept in (1, "yes", [1], None, 0, EqualToAll()):
            simulator = self.played()
            simulator.trying(lambda given: given.put("a", 9), kept=kept)
            self.assertEqual(all_told(simulator), all_told(self.played()))

    def test_an_exception_passes_on(self):
        def visitor(given):
            self.do(given)
            raise Kept

        for kept in (True, False):
            simulator = self.played()
            with self.assertRaises(Kept):
                simulator.trying(visitor, kept=kept)
            self.assertEqual(all_told(simulator), all_told(self.played()))

    def test_trying_within_trying(self):
        simulator = self.played()
        simulator.trying(lambda one: one.trying(lambda other: other.go(30), kept=True))
        self.assertEqual(all_told(simulator), all_told(self.played()))


class ReplayTest(Checks):
    """Beside one that replays all that was done and not undone."""

    def do(self, simulator, deed):
        kind, *rest = deed
        if kind == "order":
            simulator.order = rest[0]
        else:
            getattr(simulator, kind)(*rest)

    def deed(self, chance, program, moment):
        name = chance.choice(program.inputs())
        return chance.choice([
            ("put", name, chance.randrange(3)), ("put", name, chance.randrange(3)), ("run",),
            ("plan", moment + chance.randint(1, 4), name, chance.randrange(3)),
            ("plan", moment + chance.randint(1, 4), name, chance.randrange(3)),
            ("go", moment + chance.randint(0, 4)), ("order", chance.sample(program.names(), len(program))), ("undo",),
        ])

    def test_any_deeds(self):
        chance = random.Random(92)
        for program in model.some_programs(60, 93):
            values = [0] * len(program.variables())
            simulator = Simulator(program, values)
            done = []
            for _ in range(25):
                deed = self.deed(chance, program, simulator.moment)
                try:
                    self.do(simulator, deed)
                except (NeverEnds, NothingBack):
                    continue
                done = done[:-1] if deed == ("undo",) else [*done, deed]
                other = Simulator(program, values)
                for one in done:
                    self.do(other, one)
                self.assertEqual(all_told(simulator), all_told(other))
                self.assertEqual(len(simulator), len(done))

    def test_step_by_step(self):
        # go is as the puts of each moment, and a run.
        chance = random.Random(94)
        for program in model.some_programs(60, 95):
            one, other = Simulator(program, [0] * len(program.variables())), Simulator(program, [0] * len(program.variables()))
            puts = sorted([(chance.randint(1, 6), chance.choice(program.inputs()), chance.randrange(3)) for _ in range(6)],
                          key=lambda put: put[0])
            told = []
            try:
                for put in puts:
                    one.plan(*put)
                one.go(6)
                for moment in range(7):
                    for _, name, value in [put for put in puts if put[0] == moment]:
                        other.put(name, value)
                    if other.run():
                        told.append((moment, tuple(other.now().values())))
            except NeverEnds:
                continue
            self.assertEqual((one.now(), one.trace()), (other.now(), told))


class TracesTest(Checks):
    def test_one_for_each_order(self):
        puts = [(0, "a", 5), (3, "a", 6), (2, "a", 7)]
        told = [[(0, (5, 2)), (2, (7, 2)), (3, (6, 2))], [(0, (5, 1)), (2, (7, 1)), (3, (6, 1))]]
        self.assertEqual(traces(RACE, [0, 0], puts, [["p", "q"], ("q", "p")]), told)
        self.assertEqual(traces(program=RACE, values=(0, 0), puts=tuple(puts), orders=(["p", "q"],)), told[:1])
        self.assertEqual(traces(RACE, [0, 0], puts, [["q", "p"], ["q", "p"]]), [told[1], told[1]])

    def test_no_puts(self):
        self.assertEqual(traces(RACE, [0, 0], [], [["p", "q"], ["q", "p"]]), [[], []])
        self.assertEqual(traces(RACE, [0, 0], (), [["p", "q"]]), [[]])

    def test_puts_of_one_moment_in_order(self):
        self.assertEqual(traces(RACE, [0, 0], [(0, "a", 5), (0, "a", 0)], [["p", "q"]]), [[]])
        self.assertEqual(traces(RACE, [0, 0], [(1, "a", 0), (1, "a", 5)], [["p", "q"]]), [[(1, (5, 2))]])

    def test_told_lists_are_new(self):
        told = traces(RACE, [0, 0], [(0, "a", 5)], [["p", "q"], ["p", "q"]])
        told[0].append("changed")
        self.assertEqual(told[1], [(0, (5, 2))])

    def test_what_is_wrong(self):
        for wrong in NO_VALUES:
            self.refuses_it(NoStart, wrong, traces, LINE, wrong, [(-1, "x", None)], [["p"]])
        for wrong in NO_ORDERS:
            self.refuses_it(NoOrder, wrong, traces, LINE, [1, 2, 3], [(-1, "x", None)], [wrong, ["p", "q"]])
        for wrong in [*NO_NUMBERS, -1]:
            self.refuses_it(NoPlan, wrong, traces, LINE, [1, 2, 3], [(1, "a", 5), (wrong, "x", None)], [["p", "q"]])
        for moment in (0, 1):
            for wrong in [*NO_NAMES, "b"]:
                self.refuses_it(NoName, wrong, traces, LINE, [1, 2, 3], [(moment, wrong, None)], [["p", "q"]])
            for wrong in NO_NUMBERS:
                self.refuses_it(NoNumber, wrong, traces, LINE, [1, 2, 3], [(moment, "a", wrong)], [["p", "q"]])

    def test_one_order_behind_the_other(self):
        # Of the first order all is looked at before the second order is.
        self.refuses(NoPlan, -1, traces, LINE, [1, 2, 3], [(-1, "a", 5)], [["p", "q"], ["p"]])
        self.refuses(NeverEnds, 4, traces, BLINK, [0, 0, 0, 0], [(4, "a", 5)], [["p", "q"], ["p"]])
        self.refuses(NoOrder, ["p"], traces, BLINK, [0, 0, 0, 0], [(4, "a", 5)], [["p"], ["p", "q"]])

    def test_never_ends_by_one_order(self):
        program = program_of("p a: b := 1", "q a: c := b", "r cd: d <= (c=1?d:(d=0?1:0))")
        self.assertEqual(traces(program, [0, 0, 1, 0], [(1, "a", 5)], [["p", "q", "r"]]), [[(1, (5, 1, 1, 0))]])
        self.assertRaises(NeverEnds, traces, program, [0, 0, 1, 0], [(1, "a", 5)], [["p", "q", "r"], ["q", "p", "r"]])

    def test_of_a_sole_program_all_are_alike(self):
        chance = random.Random(96)
        found = 0
        for program in model.some_programs(120, 97):
            if is_sole(program) and len(program) > 1:
                found += 1
                puts = [(chance.randrange(6), chance.choice(program.inputs()), chance.randrange(-1, 3)) for _ in range(8)]
                orders = [program.names(), program.names()[::-1]]
                orders.append(chance.sample(program.names(), len(program)))
                told = traces(program, [0] * len(program.variables()), puts, orders)
                self.assertEqual(told, [told[0]] * 3)
        self.assertGreater(found, 15)


if __name__ == "__main__":
    unittest.main()
