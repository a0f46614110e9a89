"""Starts, faults and verdicts."""

import inspect
import unittest
import unittest.mock

import model
from checks import NO_BOUNDS, Checks, EqualToAll, program_of
from tiedsteps import verdicts
from tiedsteps.benches import is_run, played
from tiedsteps.errors import NoFault, NoNumber, NoStart, TooMany
from tiedsteps.processes import Process
from tiedsteps.programs import Program
from tiedsteps.rules import is_end, start_state
from tiedsteps.verdicts import Verdict, end_of, fault_of, faults, is_sole, starts

LINE = program_of("p a: b := a", "q b: c := b")
RACE = program_of("p a: b := 1", "q a: b := 2")
BLINK = program_of("p ab: b <= (b=0?1:0)")
# r wakes itself for ever if q goes ahead of p and has no 1 from before.
BOTH = program_of("p a: b := 1", "q a: c := b", "r cd: d <= (c=1?d:(d=0?1:0))")
# The start in which only a changed parts at once; where c changed too there are more states.
LARGER = program_of("p a: b := 1", "q a: b := 2", "r c: b := a", "s c: b := c", inputs="ca")
ALL = [LINE, RACE, BLINK, BOTH, LARGER]
NO_FAULTS = [None, True, 0, "", "part", "Parts", "PARTS", "parts ", "several", "one", [], ["parts"], ("parts",), {},
             {"parts": 1}, {"parts"}, b"parts", EqualToAll()]


def sizes(program):
    return [len(model.table(program, model.start_state(program, *start))) for start in starts(program)]


def takes_bounds(program):
    """All that look at all starts of a program and take a bound."""
    calls = [faults, is_sole, Verdict]
    return [lambda call=call, **named: call(program, **named) for call in calls]


class StartsTest(Checks):
    def test_of_one_input(self):
        self.assertEqual(list(starts(LINE)), [
            ((0, 0, 0), ("a",)), ((0, 0, 1), ("a",)), ((0, 1, 0), ("a",)), ((0, 1, 1), ("a",)), ((0, 1, 2), ("a",)),
        ])

    def test_of_several_inputs(self):
        program = program_of("p cba: d := 3", inputs="cab")
        rows = [("a",), ("b",), ("c",), ("a", "b"), ("a", "c"), ("b", "c"), ("a", "b", "c")]
        told = list(starts(program))
        self.assertEqual(told[:7], [((3, 3, 3, 3), row) for row in rows])
        self.assertEqual(told[7:14], [((3, 3, 3, 0), row) for row in rows])
        self.assertEqual(told[-7:], [((0, 1, 2, 4), row) for row in rows])
        self.assertEqual(len(told), 7 * 52)

    def test_longer_names_stand_behind_shorter_rows(self):
        program = Program([Process("p", ["ab", "b"], ["c := b"])], ["b", "ab"])
        self.assertEqual([changed for _, changed in starts(program)][:3], [("ab",), ("b",), ("ab", "b")])

    def test_as_the_model_tells_them(self):
        for program in [*ALL, *model.some_programs(40, 31)]:
            told = list(starts(program=program))
            self.assertEqual(told, model.starts(program))
            self.assertEqual({(start.__class__, start[0].__class__, start[1].__class__) for start in told}, {(tuple,) * 3})

    def test_a_generator(self):
        self.assertTrue(inspect.isgenerator(starts(LINE)))
        self.assertEqual(next(starts(LINE)), ((0, 0, 0), ("a",)))


class FaultsTest(Checks):
    def test_each_and_both_and_none(self):
        for program, told in ((LINE, []), (RACE, ["parts"]), (BLINK, ["rings"]), (BOTH, ["parts", "rings"])):
            self.assertEqual(faults(program), told)
            self.assertEqual(faults(program=program, most=100), told)
            self.assertIs(is_sole(program), told == [])
            self.assertIs(is_sole(program=program, most=100), told == [])
        self.new_each_time(lambda: faults(RACE), ["parts"])

    def test_ends_of_unlike_starts_may_be_unlike(self):
        self.assertEqual(len({end_of(LINE, *start) for start in starts(LINE)}), 2)
        self.assertIs(is_sole(LINE), True)

    def test_unlike_ends_need_unlike_values(self):
        # Whoever goes ahead, the same is written, though one is awake twice in one order.
        self.assertEqual(faults(program_of("p a: b := 1", "q ab: c := 1")), [])

    def test_as_the_model_finds_them(self):
        found = []
        for program in model.some_programs(120, 32):
            told = shown_by(program)
            self.assertEqual(faults(program), [fault for fault in ("parts", "rings") if fault in told])
            found.append(tuple(sorted(told)))
            self.check_verdict(program, told)
        self.assertEqual(set(found), {(), ("parts",), ("rings",), ("parts", "rings")})

    def test_where_little_is_kept_for_other_starts(self):
        for program in model.some_programs(20, 34):
            told = [fault_of(program, fault) for fault in faults(program)], vars(Verdict(program))
            with unittest.mock.patch.object(verdicts, "MOST_KEPT", 1):
                self.assertEqual(([fault_of(program, fault) for fault in faults(program)], vars(Verdict(program))), told)

    def check_verdict(self, program, told):
        verdict = Verdict(program)
        lengths = [model.longest(program, model.start_state(program, *start)) for start in starts(program)]
        self.assertEqual(verdict.starts, len(lengths))
        self.assertEqual(verdict.longest, None if None in lengths else max(lengths))
        self.assertEqual(verdict.sole, told == {})
        for fault, start in told.items():
            self.assertEqual(fault_of(program, fault)[0], start)


def shown_by(program):
    """The dict from the faults to the first starts that have them, as the model finds them."""
    told = {}
    for start in model.starts(program):
        state = model.start_state(program, *start)
        if len(model.ends(program, state)) > 1:
            told.setdefault("parts", start)
        if model.longest(program, state) is None:
            told.setdefault("rings", start)
    return told


class FaultOfTest(Checks):
    def check_parts(self, program, told):
        start, run, second = told
        state = start_state(program, *start)
        self.assertEqual((told.__class__, run.__class__, second.__class__), (tuple, list, list))
        self.assertTrue(is_end(program, played(program, state, run)))
        self.assertTrue(is_end(program, played(program, state, second)))
        self.assertNotEqual(played(program, state, run)[0], played(program, state, second)[0])

    def check_rings(self, program, told):
        start, run, second = told
        state = start_state(program, *start)
        self.assertEqual((told.__class__, run.__class__, second.__class__), (tuple, list, list))
        self.assertTrue(is_run(program, state, run + second) and second)
        self.assertEqual(played(program, state, run), played(program, state, run + second))

    def test_of_the_first_start_that_has_it(self):
        told = fault_of(RACE, "parts")
        self.check_parts(RACE, told)
        self.assertEqual(told[0], ((1, 1), ("a",)))
        told = fault_of(program=BLINK, fault="rings", most=100)
        self.check_rings(BLINK, told)
        self.assertEqual(told[0], ((0, 0), ("a",)))

    def test_of_a_later_start(self):
        # Only where a is 5 there is a fault.
        program = program_of("p a: b := (a=5?0:b)", "q a: b := (a=5?a:b)")
        told = fault_of(program, "parts")
        self.check_parts(program, told)
        self.assertEqual(told[0], ((5, 0), ("a",)))
        program = program_of("p ab: b <= (a=5?(b=0?5:0):b)", inputs="ca")
        told = fault_of(program, "rings")
        self.check_rings(program, told)
        self.assertEqual(told[0], ((5, 0, 0), ("a",)))

    def test_of_both(self):
        self.check_parts(BOTH, fault_of(BOTH, "parts"))
        self.check_rings(BOTH, fault_of(BOTH, "rings"))
        self.assertEqual({fault: fault_of(BOTH, fault)[0] for fault in ("parts", "rings")}, shown_by(BOTH))

    def test_what_is_none_of_its_faults(self):
        for program in ALL:
            for wrong in NO_FAULTS:
                with self.subTest(wrong):
                    self.refuses_it(NoFault, wrong, fault_of, program, wrong)
        self.refuses(NoFault, "parts", fault_of, LINE, "parts")
        self.refuses(NoFault, "rings", fault_of, LINE, "rings")
        self.refuses(NoFault, "rings", fault_of, RACE, "rings")
        self.refuses(NoFault, "parts", fault_of, BLINK, "parts")

    def test_bounds_are_told_ahead(self):
        most = max(sizes(LARGER))
        self.check_parts(LARGER, fault_of(LARGER, "parts", most=most))
        for fault in ("parts", "rings", None):
            self.refuses(TooMany, most - 1, fault_of, LARGER, fault, most=most - 1)
            for wrong in NO_BOUNDS:
                self.refuses_it(NoNumber, wrong, fault_of, LARGER, fault, most=wrong)
        self.refuses(NoFault, "rings", fault_of, LARGER, "rings", most=most)
        self.assertRaises(TypeError, fault_of, LARGER, "parts", most)


class BoundsTest(Checks):
    def test_just_reached_and_one_less(self):
        for program in ALL:
            most = max(sizes(program))
            for call in takes_bounds(program):
                call(most=most)
                for less in range(1, most):
                    self.refuses(TooMany, less, call, most=less)

    def test_whatever_an_earlier_start_shows(self):
        told = sizes(LARGER)
        first = [len(model.ends(LARGER, model.start_state(LARGER, *start))) > 1 for start in starts(LARGER)].index(True)
        self.assertLess(max(told[:first + 1]), max(told))
        for call in takes_bounds(LARGER):
            self.refuses(TooMany, max(told[:first + 1]), call, most=max(told[:first + 1]))

    def test_wrong_bounds(self):
        for call in takes_bounds(LINE):
            for wrong in NO_BOUNDS:
                self.refuses_it(NoNumber, wrong, call, most=wrong)
        for call in (faults, is_sole, Verdict):
            self.assertRaises(TypeError, call, LINE, 5)

    def test_the_bound_that_is_not_told(self):
        for call in (faults, is_sole, fault_of, end_of, Verdict.__init__):
            self.assertEqual(call.__kwdefaults__, {"most": 2000})


class EndOfTest(Checks):
    def test_one_end(self):
        self.assertEqual(end_of(LINE, [5, -3, 10 ** 59], ["a"]), (5, 5, 5))
        self.assertEqual(end_of(program=LINE, values=(-1, -1, 10 ** 59), changed=("a",), most=10), (-1, -1, 10 ** 59))
        self.assertEqual(end_of(LARGER, [3, 4, 3], ["c"]), (3, 3, 3))

    def test_several_or_a_ring(self):
        self.assertIsNone(end_of(RACE, [5, 6], ["a"]))
        self.assertIsNone(end_of(BLINK, [5, 6], ["a"]))
        # A ring, and one end beside it.
        self.assertIsNone(end_of(BOTH, [5, 0, 7, 8], ["a"]))

    def test_changed_in_any_order(self):
        program = program_of("p a: c := a", "q b: d := b", inputs="ba")
        for changed in (["a", "b"], ("b", "a")):
            self.assertEqual(end_of(program, [1, 2, 3, 4], changed), (1, 2, 1, 2))
        self.assertEqual(end_of(program, [1, 2, 3, 4], ["b"]), (1, 2, 3, 2))

    def test_wrong_starts(self):
        for wrong in (None, True, [], [1, 2], [1, 2, 3, 4], [1, 2, True], [1, 2, "3"], "123", {}, EqualToAll()):
            self.refuses_it(NoStart, wrong, end_of, LINE, wrong, ["a"])
            self.refuses_it(NoStart, wrong, end_of, LINE, wrong, None, most=1)
        for wrong in (None, True, [], (), ["b"], ["a", "a"], "a", {"a": 1}, [True], EqualToAll(), [EqualToAll()]):
            self.refuses_it(NoStart, wrong, end_of, LINE, [1, 2, 3], wrong)

    def test_bounds_are_those_of_this_start(self):
        for start, many in zip(starts(LARGER), sizes(LARGER)):
            end_of(LARGER, *start, most=many)
            if many > 1:
                self.refuses(TooMany, many - 1, end_of, LARGER, *start, most=many - 1)
        for wrong in NO_BOUNDS:
            self.refuses_it(NoNumber, wrong, end_of, LINE, [1, 2, 3], ["a"], most=wrong)
            self.refuses_it(NoNumber, wrong, end_of, LINE, None, None, most=wrong)
        self.assertRaises(TypeError, end_of, LINE, [1, 2, 3], ["a"], 5)

    def test_as_the_model_finds_it(self):
        for program in model.some_programs(80, 33):
            for values, changed in list(model.starts(program))[::5]:
                state = model.start_state(program, values, changed)
                told = model.ends(program, state)
                one = len(told) == 1 and model.longest(program, state) is not None
                self.assertEqual(end_of(program, values, changed), told[0] if one else None)


class VerdictTest(Checks):
    def told(self, program):
        verdict = Verdict(program=program, most=500)
        return verdict.sole, verdict.starts, verdict.longest, verdict.word, verdict.faults()

    def test_what_it_tells(self):
        self.assertEqual(self.told(LINE), (True, 5, 2, "one", []))
        self.assertEqual(self.told(RACE), (False, 10, 2, "several", ["parts"]))
        self.assertEqual(self.told(BLINK), (False, 10, None, "rings", ["rings"]))
        self.assertEqual(self.told(BOTH), (False, 151, None, "rings", ["parts", "rings"]))
        self.assertEqual(self.told(LARGER)[:1] + self.told(LARGER)[2:], (False, 4, "several", ["parts"]))

    def test_told_lists_are_new(self):
        self.new_each_time(Verdict(RACE).faults, ["parts"])

    def test_equal_where_the_programs_are(self):
        self.assertTrue(Verdict(LINE) == Verdict(program_of("p a: b := a", "q b: c := b"), most=10))
        self.assertFalse(Verdict(LINE) != Verdict(LINE))
        for other in (Verdict(RACE), Verdict(program_of("q b: c := b", "p a: b := a")), LINE, "one", None, EqualToAll()):
            self.assertIs(Verdict(LINE) == other, False)
            self.assertIs(Verdict(LINE) != other, True)

    def test_properties_cannot_be_assigned(self):
        for name in ("sole", "longest", "word"):
            self.assertRaises(AttributeError, setattr, Verdict(LINE), name, 1)


if __name__ == "__main__":
    unittest.main()
