"""Searches among the states that runs come to."""

import unittest

import model
from checks import NO_BOUNDS, Checks, EqualToAll
from tiedsteps.benches import is_run, played
from tiedsteps.errors import NoNumber, TooMany
from tiedsteps.processes import Process
from tiedsteps.programs import Program
from tiedsteps.rules import is_end, start_state
from tiedsteps.searches import all_states, ends, longest, parting, ring, to_end, way_to

# Two that write unlike values: four states, two ends.
RACE = Program([Process("p", ["a"], ["b := 1"]), Process("q", ["a"], ["b := 2"])], ["a"])
RACE_START = ((0, 0), (0, 1), ())
RACE_STATES = [RACE_START, ((0, 1), (1,), ()), ((0, 2), (0,), ()), ((0, 2), (), ()), ((0, 1), (), ())]
# One run alone: p, q, turn, an end.
LINE = Program([Process("p", ["a"], ["b := a"]), Process("q", ["b"], ["c <= b"])], ["a"])
LINE_START = ((7, 0, 0), (0,), ())
LINE_STATES = [LINE_START, ((7, 7, 0), (1,), ()), ((7, 7, 0), (), ((2, 7),)), ((7, 7, 7), (), ())]
# No end: b goes from 0 to 1 and back.
BLINK = Program([Process("p", ["a", "b"], ["b <= (b=0?1:0)"])], ["a"])
BLINK_START = ((0, 5), (0,), ())
# An end and a ring: r wakes itself for ever if q goes ahead of p.
EITHER = Program(
    [
        Process("p", ["a"], ["b := 1"]),
        Process("q", ["a"], ["c := b"]),
        Process("r", ["c", "d"], ["d <= (c=1?d:(d=0?1:0))"]),
    ],
    ["a"],
)
EITHER_START = ((0, 0, 5, 0), (0, 1), ())
# So many states that they go beyond the bound that is not told.
GREAT = Program(
    [
        Process("p", ["e", "d"], ["d := 1"]),
        Process("q", ["c", "e", "d", "b"], ["c <= (e=0?e:d)", "c := (e=1?c:d)"]),
        Process("r", ["c", "a", "b"], ["d <= (d=b?d:1)", "d <= (0=1?b:a)"]),
        Process("s", ["c", "a", "e"], ["e <= b", "b <= (e=b?a:e)"]),
        Process("t", ["e", "d"], ["c <= b", "e <= c"]),
    ],
    ["a"],
)
SEARCHES = [all_states, ends, to_end, ring, longest, parting]


class AllStatesTest(Checks):
    def test_as_they_are_met(self):
        self.assertEqual(all_states(RACE, RACE_START), RACE_STATES)
        self.assertEqual(all_states(program=LINE, state=LINE_START, most=5), LINE_STATES)
        self.assertEqual(all_states(LINE, LINE_STATES[2]), LINE_STATES[2:])
        self.assertEqual(all_states(LINE, LINE_STATES[3]), LINE_STATES[3:])
        self.assertEqual(len(all_states(BLINK, BLINK_START)), 6)
        self.new_each_time(lambda: all_states(LINE, LINE_START), LINE_STATES)

    def test_by_breadth_as_the_model_meets_them(self):
        for program, state, told in some_tables(80, 2):
            self.assertEqual(all_states(program, state), list(told))


class BoundsTest(Checks):
    def each_search(self):
        goals = [RACE_START, RACE_STATES[4], None]
        found = [lambda program, state, goal=goal, **named: way_to(program, state, goal, **named) for goal in goals]
        return SEARCHES + found

    def test_a_bound_just_reached_and_one_less(self):
        for search in self.each_search():
            for program, state in ((RACE, RACE_START), (LINE, LINE_START), (BLINK, BLINK_START), (EITHER, EITHER_START)):
                many = len(all_states(program, state))
                self.assertEqual(search(program, state, most=many), search(program, state))
                for most in range(1, many):
                    self.refuses(TooMany, most, search, program, state, most=most)

    def test_an_end_is_one_state(self):
        for search in self.each_search():
            search(LINE, LINE_STATES[3], most=1)
            self.refuses(TooMany, 1, search, LINE, LINE_STATES[2], most=1)

    def test_wrong_bounds(self):
        for search in self.each_search():
            for wrong in NO_BOUNDS:
                self.refuses_it(NoNumber, wrong, search, RACE, RACE_START, most=wrong)
                self.refuses_it(NoNumber, wrong, search, LINE, LINE_STATES[3], most=wrong)
            self.assertRaises(TypeError, search, RACE, RACE_START, 5, 5)

    def test_the_bound_that_is_not_told(self):
        state = start_state(GREAT, [0, 1, 2, 3, 4], ["a"])
        many = len(model.table(GREAT, state))
        self.assertEqual(many, 2322)
        self.assertEqual(len(all_states(GREAT, state, most=many)), many)
        for search in self.each_search():
            self.refuses(TooMany, 2000, search, GREAT, state)
            self.refuses(TooMany, many - 1, search, GREAT, state, most=many - 1)
            search(GREAT, state, most=many)
        for search in [*SEARCHES, way_to]:
            self.assertEqual(search.__kwdefaults__, {"most": 2000})

    def test_great_bounds(self):
        for search in self.each_search():
            self.assertEqual(search(RACE, RACE_START, most=10 ** 50), search(RACE, RACE_START))


class EndsTest(Checks):
    def test_ends(self):
        self.assertEqual(ends(RACE, RACE_START), [(0, 1), (0, 2)])
        self.assertEqual(ends(LINE, LINE_START), [(7, 7, 7)])
        self.assertEqual(ends(BLINK, BLINK_START), [])
        self.assertEqual(ends(program=EITHER, state=EITHER_START, most=100), [(0, 1, 1, 0)])
        self.new_each_time(lambda: ends(RACE, RACE_START), [(0, 1), (0, 2)])

    def test_ascending_by_numbers(self):
        program = Program([Process(name, ["a"], [f"d := {name}"]) for name in ("a", "b", "c")], ["a", "b", "c"])
        state = start_state(program, [10, -3, 9, 0], ["a"])
        self.assertEqual(ends(program, state), [(10, -3, 9, -3), (10, -3, 9, 9), (10, -3, 9, 10)])

    def test_as_the_model_finds_them(self):
        for program, state, told in some_tables(80, 3):
            self.assertEqual(ends(program, state), sorted({one[0] for one, behind in told.items() if not behind}))


class ToEndTest(Checks):
    def test_the_fewest_moves(self):
        self.assertEqual(to_end(LINE, LINE_START), ["p", "q", "turn"])
        self.assertEqual(to_end(LINE, LINE_STATES[3]), [])
        self.assertIn(to_end(RACE, RACE_START), [["p", "q"], ["q", "p"]])
        self.assertIsNone(to_end(BLINK, BLINK_START))
        run = to_end(program=EITHER, state=EITHER_START, most=100)
        self.assertEqual(run, ["p", "q", "r", "turn"])
        # Where q goes ahead of p it moves twice, so the way to this end is longer.
        program = Program([Process("q", ["a", "b"], ["c := b"]), Process("p", ["a"], ["b := 1"])], ["a"])
        self.assertEqual(to_end(program, ((0, 0, 0), (0, 1), ())), ["p", "q"])

    def test_as_many_as_in_the_model(self):
        for program, state, told in some_tables(80, 4):
            run = to_end(program, state)
            level = levels_of(told, state)
            last = [one for one, behind in told.items() if not behind]
            if run is None:
                self.assertEqual(last, [])
            else:
                self.assertTrue(is_run(program, state, run) and is_end(program, played(program, state, run)))
                self.assertEqual(len(run), min(level[one] for one in last))
                self.assertIs(run.__class__, list)


class RingTest(Checks):
    def is_ring(self, program, state, told):
        self.assertEqual((told.__class__, len(told)), (tuple, 2))
        run, circle = told
        self.assertEqual((run.__class__, circle.__class__), (list, list))
        self.assertTrue(is_run(program, state, run + circle))
        self.assertGreater(len(circle), 0)
        self.assertEqual(played(program, state, run + circle), played(program, state, run))

    def test_rings(self):
        self.is_ring(BLINK, BLINK_START, ring(program=BLINK, state=BLINK_START, most=6))
        self.is_ring(EITHER, EITHER_START, ring(EITHER, EITHER_START))
        for program, state in ((RACE, RACE_START), (LINE, LINE_START), (LINE, LINE_STATES[3])):
            self.assertIsNone(ring(program, state))

    def test_a_ring_from_a_state_on_it(self):
        for state in all_states(BLINK, BLINK_START):
            self.is_ring(BLINK, state, ring(BLINK, state))

    def test_just_where_the_model_has_a_run_that_never_ends(self):
        found = 0
        for program, state, _ in some_tables(150, 5):
            told = ring(program, state)
            if model.longest(program, state) is None:
                self.is_ring(program, state, told)
                found += 1
            else:
                self.assertIsNone(told)
        self.assertGreater(found, 10)

    def test_longest(self):
        self.assertEqual(longest(LINE, LINE_START), 3)
        self.assertEqual(longest(LINE, LINE_STATES[3]), 0)
        self.assertEqual(longest(RACE, RACE_START), 2)
        self.assertIsNone(longest(BLINK, BLINK_START))
        self.assertIsNone(longest(program=EITHER, state=EITHER_START, most=100))
        program = Program([Process("p", ["a"], ["b := 1"]), Process("q", ["a", "b"], ["c := b"])], ["a"])
        self.assertEqual(longest(program, ((0, 0, 0), (0, 1), ())), 3)

    def test_longest_as_in_the_model(self):
        for program, state, _ in some_tables(150, 6):
            self.assertEqual(longest(program, state), model.longest(program, state))


class PartingTest(Checks):
    def parts(self, program, state, told):
        self.assertEqual((told.__class__, [run.__class__ for run in told]), (tuple, [list, list]))
        behind = [played(program, state, run) for run in told]
        self.assertTrue(all(is_end(program, one) for one in behind))
        self.assertEqual(len({one[0] for one in behind}), 2)

    def test_parting(self):
        self.parts(RACE, RACE_START, parting(program=RACE, state=RACE_START, most=5))
        for program, state in ((LINE, LINE_START), (BLINK, BLINK_START), (EITHER, EITHER_START), (RACE, RACE_STATES[3])):
            self.assertIsNone(parting(program, state))

    def test_just_where_the_model_has_unlike_ends(self):
        found = 0
        for program, state, told in some_tables(300, 7):
            unlike = {one[0] for one, behind in told.items() if not behind}
            if len(unlike) > 1:
                self.parts(program, state, parting(program, state))
                found += 1
            else:
                self.assertIsNone(parting(program, state))
        self.assertGreater(found, 10)


class WayToTest(Checks):
    def test_states(self):
        for many, goal in enumerate(LINE_STATES):
            self.assertEqual(way_to(LINE, LINE_START, goal), ["p", "q", "turn"][:many])
        self.assertEqual(way_to(program=RACE, state=RACE_START, goal=RACE_STATES[3], most=5), ["p", "q"])
        self.assertEqual(way_to(RACE, RACE_START, ((0, 1), (), ())), ["q", "p"])
        self.assertEqual(way_to(RACE, RACE_START, RACE_START), [])

    def test_any_other_value(self):
        wrongs = [None, True, 0, "", "end", [], (), {}, (1, 2, 3), ((), (), ()), ((7, 7, 7), (), (), ()), ((7, 7, 7), ()),
                  ([7, 7, 7], (), ()), [(7, 7, 7), (), ()], ((7, 7, 7), [], ()), ((7, 7, 7), (), []), ((7, 7, 8), (), ()),
                  ((7, 7), (), ()), ((7, 7, 7.0), (), ()), ((7, 7, 0), (), ([2, 7],)), ((7, 7, 0), (), ((2, 8),)),
                  ((7, 7, EqualToAll()), (), ()), EqualToAll(), (EqualToAll(), EqualToAll(), EqualToAll()), Process,
                  ((7, 7, 7), {}, {}), ((7, 7, 7), None, None), ((7, 7, 7), (), None), (None, (), ()), (7, 7, 7),
                  ((7, 7, 7), (), (None,)), ((7, 7, 0), (), ((2,),)), ((7, 7, 0), (), (2, 7)), ((7, 7, 0), ("q",), ())]
        for wrong in wrongs:
            with self.subTest(wrong):
                self.assertIsNone(way_to(LINE, LINE_START, wrong))

    def test_a_truth_is_no_number_of_a_state(self):
        program = Program([Process("p", ["a"], ["b := a"]), Process("q", ["b"], ["c <= b"])], ["a"])
        state = ((1, 0, 0), (0,), ())
        self.assertEqual(way_to(program, state, ((1, 1, 0), (1,), ())), ["p"])
        self.assertEqual(way_to(program, state, ((1, 1, 0), (), ((2, 1),))), ["p", "q"])
        for wrong in [((1, True, 0), (1,), ()), ((1, 1, False), (1,), ()), ((1, 1, 0), (True,), ()),
                      ((1, 0, 0), (False,), ()), ((1, 1, 0), (), ((2, True),))]:
            self.assertIsNone(way_to(program, state, wrong))
        blink = ((0, 5), (), ((True, 0),))
        self.assertEqual(way_to(BLINK, BLINK_START, ((0, 5), (), ((1, 0),))), ["p"])
        self.assertIsNone(way_to(BLINK, BLINK_START, blink))

    def test_deep_values(self):
        deep = ()
        for _ in range(50000):
            deep = (deep,)
        self.assertIsNone(way_to(LINE, LINE_START, deep))

    def test_a_state_that_is_not_come_to(self):
        self.assertIsNone(way_to(LINE, LINE_STATES[1], LINE_START))
        self.assertIsNone(way_to(LINE, LINE_START, ((7, 0, 0), (), ())))

    def test_the_fewest_moves_to_each_state(self):
        for program, state, told in some_tables(60, 8):
            level = levels_of(told, state)
            for goal in told:
                run = way_to(program, state, goal)
                self.assertEqual((len(run), played(program, state, run)), (level[goal], goal))


def some_tables(many, seed):
    """For some programs a start with all inputs changed, and what the model finds from there."""
    for program in model.some_programs(many, seed):
        values = [place // 2 for place in range(len(program.variables()))]
        state = start_state(program, values, program.inputs())
        yield program, state, model.table(program, state)


def levels_of(told, state):
    """The fewest moves to each state."""
    level = {state: 0}
    for one in told:
        for other in told[one].values():
            level.setdefault(other, level[one] + 1)
    return level


if __name__ == "__main__":
    unittest.main()
