"""What the document promises over the whole program, also for programs as large as they may be."""

import importlib
import inspect
import unittest

import model
from checks import Checks, program_of
from test_interface import FUNCTIONS, GENERATORS, INTERFACE
from tiedsteps.alike import alike, common_starts, difference, merged
from tiedsteps.benches import Bench, is_run, played
from tiedsteps.cases import Cases
from tiedsteps.commuting import all_commute, clashes
from tiedsteps.console import Console
from tiedsteps.delays import Delays, helps, least_delays
from tiedsteps.errors import TooMany
from tiedsteps.live import Simulator, traces
from tiedsteps.notes import read_program, read_run, read_start, write_program, write_run, write_start
from tiedsteps.papers import accepts, paper_of, start_paper
from tiedsteps.patterns import exchanged, pattern_count, pattern_of, patterns, values_of
from tiedsteps.processes import Deed, Process
from tiedsteps.programs import Program
from tiedsteps.rules import is_end, start_state
from tiedsteps.searches import all_states, ends, longest, ring, to_end
from tiedsteps.slices import bearing, cut, sliced
from tiedsteps.terms import Term
from tiedsteps.ties import least_rules, orders, outcomes, settles
from tiedsteps.verdicts import Verdict, end_of, fault_of, faults, is_sole, starts
from tiedsteps.wakings import circle, falling, weights

LINE = program_of("p a: b := a", "q b: c := b")
WIDE = model.wide_programs(8, 141, at_once=3)
# Every two of its processes commute.
EVEN = program_of("p a: v := a", "q b: w := (b=1?2:b)", "s b: x := b", "r ab: x := b", "t a: v := a", inputs="ab")


def some_starts(program):
    """Some of the starts, which are up to 4718."""
    told = list(starts(program))
    return told[::max(1, len(told) // 40)]


class ExamplesTest(unittest.TestCase):
    """The examples at the end of the document."""

    def test_first(self):
        program = Program([Process("p", ["a"], ["b := a"]), Process("q", ["b"], ["c := b"])], ["a"])
        verdict = Verdict(program)
        told = (verdict.word, verdict.starts, verdict.longest, weights(program))
        self.assertEqual(repr(told), "('one', 5, 2, {'p': 2, 'q': 1})")

    def test_second(self):
        program = Program([Process("p", ["a"], ["b := 1"]), Process("q", ["a"], ["b := 2"])], ["a"])
        start, run, second = fault_of(program, "parts")
        told = (faults(program), start, sorted([run, second]), least_delays(program))
        self.assertEqual(repr(told), "(['parts'], ((1, 1), ('a',)), [['p', 'q'], ['q', 'p']], [(('p', 0),), (('q', 0),)])")

    def test_third(self):
        program = Program([Process("p", ["a"], ["b := a"]), Process("q", ["b"], ["c := b"])], ["a"])
        simulator = Simulator(program, [0, 0, 0])
        simulator.put("a", 5)
        run = simulator.run()
        simulator.plan(3, "a", 7)
        simulator.go(4)
        told = (run, simulator.now(), simulator.trace(), simulator.moment)
        self.assertEqual(repr(told), "(['p', 'q'], {'a': 7, 'b': 7, 'c': 7}, [(0, (5, 5, 5)), (3, (7, 7, 7))], 4)")


class WideTest(Checks):
    """Each of [0.2], for programs with five variables, two constants and five processes."""

    def test_there_are_some_of_each_kind(self):
        for program in WIDE:
            self.assertEqual((len(program), len(program.variables()), len(program.constants())), (5, 5, 2))
        found = [Verdict(program).word for program in WIDE]
        self.assertEqual(set(found), {"one", "several", "rings"})

    def test_patterns(self):
        for program in WIDE:
            told = list(patterns(program))
            self.assertEqual(len(told), pattern_count(5, 2))
            self.assertEqual(Verdict(program).starts, len(told) * (2 ** len(program.inputs()) - 1))
            free = [value for value in range(20) if value not in program.constants()]
            pairs = dict(zip(free, [free[1], free[0], *[1000 + value for value in free[2:]]]))
            for values, changed in some_starts(program):
                others = exchanged(program, values, pairs)
                self.assertEqual(pattern_of(program, others), pattern_of(program, values))
                self.assertEqual(values_of(program, pattern_of(program, others)), values)
                told = [exchanged(program, state[0], pairs)
                        for state in all_states(program, start_state(program, values, changed))]
                other = all_states(program, start_state(program, others, changed))
                self.assertEqual([state[0] for state in other], told)

    def test_falling_and_commuting(self):
        found = []
        for program in [EVEN, *WIDE]:
            falls, commutes = circle(program) is None, all_commute(program)
            found.append((falls, commutes))
            for start in some_starts(program):
                state = start_state(program, *start)
                many = longest(program, state)
                if falls:
                    self.assertLessEqual(many, falling(program, state))
                if commutes:
                    self.assertEqual(len(ends(program, state)), 0 if many is None else 1)
                    self.assertTrue(many is None or len(to_end(program, state)) == many)
        self.assertEqual([any(row[at] for row in found) for at in range(2)], [True, True])

    def test_verdicts(self):
        for program in WIDE:
            for fault in faults(program):
                start, run, second = fault_of(program, fault)
                state = start_state(program, *start)
                if fault == "parts":
                    one, other = played(program, state, run), played(program, state, second)
                    self.assertTrue(is_end(program, one) and is_end(program, other) and one[0] != other[0])
                else:
                    self.assertTrue(is_run(program, state, run + second) and second)
                    self.assertEqual(played(program, state, run), played(program, state, run + second))
            if is_sole(program):
                for start in some_starts(program):
                    state = start_state(program, *start)
                    self.assertEqual((model.ends(program, state), model.has_ring(program, state)),
                                     ([end_of(program, *start)], False))

    def test_papers(self):
        for program in WIDE:
            self.assertIs(accepts(paper_of(program)), True)
            if is_sole(program):
                start = some_starts(program)[-1]
                self.assertTrue(model.holds(program, start, start_paper(program, start)))

    def test_delays(self):
        for program in WIDE[1:3] + WIDE[-1:]:
            delays = Delays(program)
            self.assertEqual(delays.listed(), least_delays(program))
            for places in delays:
                self.assertIs(helps(program, places), True)
            for places, fault, *_ in delays.floor():
                self.assertEqual(faults(program.delayed(places))[0], fault)
                self.assertTrue(delays.fewest is None or len(places) < delays.fewest)

    def test_alike(self):
        for program in WIDE[1:4]:
            back = Program([program[name] for name in program.names()[::-1]], program.inputs()[::-1])
            self.assertIs(alike(program, back), True)
            for place in program.places()[:1]:
                other = program.delayed([place])
                told = difference(program, other)
                self.assertEqual(told is None, difference(other, program) is None)
                if told is None:
                    self.assertTrue(merged(program, other) and merged(other, program))
                else:
                    start = told[0]
                    state, second = start_state(program, *start), start_state(other, *start)
                    self.assertTrue(ends(program, state) != ends(other, second) or
                                    (ring(program, state) is None) != (ring(other, second) is None))

    def test_alike_with_four_constants(self):
        one = program_of("p a: b := 1", "q c: d := 2; e := d", inputs="ac")
        other = program_of("p a: b := 3", "q c: d := 4; e := d", inputs="ac")
        self.assertEqual(len(list(common_starts(one, other))), 3 * pattern_count(5, 4))
        self.assertEqual(difference(one, other), (((1, 1, 1, 1, 1), ("a",)), "end", (1, 1, 1, 1, 1)))

    def test_live(self):
        for program in [program for program in WIDE if is_sole(program)]:
            puts = [(at % 3, name, 3 * at) for at, name in enumerate(program.inputs() * 2)]
            told = traces(program, [7] * 5, puts, orders(program)[::17])
            self.assertEqual(told, [told[0]] * len(told))

    def test_notes(self):
        for program in WIDE:
            self.assertEqual(read_program(write_program(program)), program)
            for start in some_starts(program)[::9]:
                self.assertEqual(read_start(program, write_start(program, start)), start)
                run = to_end(program, start_state(program, *start)) or ["turn"]
                self.assertEqual(read_run(write_run(tuple(run))), run)

    def test_cases(self):
        for program in [program for program in WIDE if is_sole(program)]:
            cases = Cases(program)
            self.assertEqual(len(cases), Verdict(program).starts)
            for values, changed in some_starts(program):
                others = [value if value in program.constants() else -value - 1 for value in values]
                self.assertEqual(cases(others, changed), end_of(program, others, changed))
            back = Program([program[name] for name in program.names()[::-1]], program.inputs()[::-1])
            self.assertIs(cases == Cases(back), True)

    def test_slices(self):
        for program in WIDE:
            for variable in program.variables():
                if bearing(program, [variable]):
                    part = sliced(program, (variable,))
                    self.assertTrue(is_sole(part) or not is_sole(program))
                    for values, changed in some_starts(program):
                        state = start_state(program, values, changed)
                        if ring(program, state) is None:
                            told = {cut(program, part, end) for end in ends(program, state)}
                            other = start_state(part, cut(program, part, values), changed)
                            self.assertEqual(set(ends(part, other)), told)

    def test_ties(self):
        for program in WIDE[:5]:
            least = least_rules(program)
            if is_sole(program):
                self.assertEqual(least, [()])
                told = [end_of(program, *start) for start in starts(program)]
                self.assertEqual([outcomes(program, order) == told for order in orders(program)[::30]], [True] * 4)
            for some in least[:3]:
                self.assertIs(settles(program, some), True)
                for at in range(len(some)):
                    self.assertIs(settles(program, some[:at] + some[at + 1:]), False)

    def test_console(self):
        for program in WIDE[:3]:
            console = Console()
            for row in write_program(program).splitlines():
                self.assertEqual(console.run(row), "ok")
            self.assertEqual(console.run("word"), Verdict(program).word)
            self.assertEqual(console.run("clashes"), " ".join("-".join(pair) for pair in clashes(program)) or "none")

    def test_too_many(self):
        for program in WIDE[:3]:
            most = max(len(all_states(program, start_state(program, *start))) for start in starts(program))
            self.assertEqual(faults(program, most=most), faults(program))
            for call in (faults, is_sole, Verdict, paper_of, least_delays, Delays, Cases,
                         lambda one, most: alike(one, one, most=most)):
                self.refuses(TooMany, most - 1, call, program, most=most - 1)


STATE = ((5, 0, 0), (0,), ())
START = ((5, 0, 0), ("a",))
# What each name of a parameter is given in the calls by name; some functions take others.
GIVEN = {
    "program": LINE, "one": "p", "other": "q", "name": "p", "values": [5, 0, 0], "changed": ["a"], "pattern": (0, 1, 1),
    "many": 3, "constants": 2, "pairs": {5: 6}, "state": STATE, "move": "p", "run": ["p", "q"], "order": ["q", "p"],
    "goal": STATE, "at": 0, "start": START, "fault": "parts", "rows": [], "paper": None, "places": [("p", 0)],
    "puts": [(0, "a", 7)], "orders": [["p", "q"]], "variables": ["c"], "some": [("p", "q")], "text": "start 5 0 0 changed a\n",
    "most": 100,
}
OTHERS = {
    ("verdicts", "fault_of"): {"program": program_of("p a: b := 1", "q a: b := 2")},
    ("benches", "tried"): {"bench": Bench(LINE, [5, 0, 0], ["a"])},
    ("notes", "read_program"): {"text": write_program(LINE)}, ("notes", "read_run"): {"text": "p\nturn\n"},
    ("alike", "alike"): {"one": LINE, "other": LINE}, ("alike", "merged"): {"one": LINE, "other": LINE},
    ("alike", "difference"): {"one": LINE, "other": LINE}, ("alike", "common_starts"): {"one": LINE, "other": LINE},
    ("slices", "cut"): {"other": LINE},
}


class NamesTest(Checks):
    def test_every_function_is_called_by_name(self):
        for file, functions in FUNCTIONS.items():
            module = importlib.import_module(f"tiedsteps.{file}")
            for name in functions:
                call = getattr(module, name)
                told = inspect.signature(call).parameters
                given = {**{key: GIVEN.get(key) for key in told}, **OTHERS.get((file, name), {})}
                with self.subTest(file=file, name=name):
                    first = [given[key] for key in told if told[key].kind is not inspect.Parameter.KEYWORD_ONLY]
                    named = {key: given[key] for key in told if told[key].kind is inspect.Parameter.KEYWORD_ONLY}
                    one, other = call(**{key: given[key] for key in list(told)[::-1]}), call(*first, **named)
                    if (file, name) in GENERATORS:
                        one, other = list(one), list(other)
                    self.assertEqual(one, other)
                    # What is only behind a star is not taken by its place.
                    if named:
                        self.assertRaises(TypeError, call, *first, *named.values())

    def test_every_method_is_called_by_name(self):
        term, deed, process = Term(value="(a=b?c:0)"), Deed(variable="b", term="a", late=False), LINE["p"]
        bench = Bench(program=LINE, values=[5, 0, 0], changed=["a"])
        simulator = Simulator(program=LINE, values=[0, 0, 0], order=None)
        delays, cases, console = Delays(program=LINE, most=9), Cases(program=LINE, most=9), Console()
        calls = [
            (term, {"variables": {}, "constants": {}, "parts": {}, "put": {"terms": {"a": "b"}}, "within": {"other": term},
                    "choice": {"one": "a", "other": 1, "same": 2, "unlike": "b"}, "__call__": {"values": {"a": 1, "b": 1, "c": 2}}}),
            (deed, {"of": {"text": "b := a"}, "delayed": {}}),
            (process, {"waits": {}, "deeds": {}, "reads": {}, "writes": {}, "constants": {}, "listed": {}, "delayed": {}}),
            (LINE, {"names": {}, "listed": {}, "inputs": {}, "variables": {}, "constants": {}, "without": {"name": "q"},
                    "replaced": {"process": process}, "places": {}, "delayed": {"places": [("p", 0)]}}),
            (bench, {"__call__": {"move": "p"}, "state": {}, "moves": {}, "made": {}, "listed": {}, "back": {"many": 1},
                     "twin": {}, "trial": {}, "trying": {"visitor": len, "kept": False}}),
            (Verdict(program=LINE, most=9), {"faults": {}}),
            (delays, {"listed": {}, "floor": {}, "joined": {"places": ()}}),
            (simulator, {"now": {}, "put": {"name": "a", "value": 5}, "run": {}, "plan": {"moment": 3, "name": "a", "value": 4},
                         "go": {"moment": 5}, "planned": {}, "trace": {}, "undo": {}, "twin": {}, "trial": {},
                         "trying": {"visitor": len, "kept": True}}),
            (cases, {"listed": {}, "__call__": {"values": [1, 2, 3], "changed": ["a"]}, "copies": {"variable": "a"},
                     "sources": {"pattern": (0, 1, 1), "changed": ("a",)}, "kept": {"variable": "b"}, "still": {}}),
            (console, {"run": {"line": "clear"}}),
        ]
        for held, methods in calls:
            listed = [part for classes in INTERFACE.values() for name, part in classes.items() if name == held.__class__.__name__][0]
            plain = {name for name, told in listed.items()
                     if told not in (None, "property") and name not in ("__init__", "__str__", "__len__", "__iter__")}
            self.assertEqual(plain, set(methods))
            for name, named in methods.items():
                getattr(held, name)(**named)

    def test_everything_iterated_over_is_listed(self):
        for held in (LINE, LINE["p"], Bench(LINE, [5, 0, 0], ["a"]), Delays(LINE), Cases(LINE)):
            self.assertEqual(list(held), held.listed())
            self.assertEqual(len(held), len(held.listed()))
            self.assertEqual(list(held), [item for item in held])
            self.assertIsNot(held.listed(), held.listed())


class CopiesTest(Checks):
    def test_what_was_handed_in_is_changed_behind(self):
        waits, deeds, inputs = ["a"], ["b := a"], ["a"]
        process = Process("p", waits, deeds)
        processes = [process]
        program = Program(processes, inputs)
        values, changed, order, run = [5, 0], ["a"], ["p"], ["p"]
        bench = Bench(program, values, changed)
        bench += run
        simulator = Simulator(program, values, order=order)
        terms = {"a": "b"}
        term = Term("a").put(terms)
        twin = bench.twin()
        for handed in (waits, deeds, inputs, processes, values, changed, order, run):
            handed.append("b")
            handed[0] = "x"
        terms["a"] = "c"
        self.assertEqual((process.waits(), process.deeds(), str(term)), (["a"], [Deed("b", "a")], "b"))
        self.assertEqual((program.names(), program.inputs(), program["p"]), (["p"], ["a"], process))
        self.assertEqual((bench.made(), bench.state(), twin.made()), (["p"], ((5, 5), (), ()), ["p"]))
        self.assertEqual((simulator.now(), simulator.order), ({"a": 5, "b": 0}, ("p",)))

    def test_what_was_returned_is_changed(self):
        race = program_of("p a: b := 1", "q a: b := 2")
        bench, simulator = Bench(LINE, [5, 0, 0], ["a"]), Simulator(LINE, [0, 0, 0])
        bench += ["p"]
        simulator.put("a", 5)
        simulator.run()
        simulator.plan(4, "a", 1)
        delays, cases, verdict = Delays(race), Cases(LINE), Verdict(race)
        term = Term("(a=b?c:0)")
        for call in (
            term.variables, term.constants, term.parts, LINE["p"].waits, LINE["p"].deeds, LINE["p"].listed, LINE["p"].reads,
            LINE["p"].writes, LINE.names, LINE.listed, LINE.inputs, LINE.variables, LINE.places, bench.made, bench.listed,
            bench.moves, delays.listed, delays.floor, cases.listed, cases.still, lambda: cases.copies("c"), verdict.faults,
            simulator.trace, simulator.planned, race.constants,
        ):
            told = list(call())
            self.assertGreater(len(told), 0)
            self.new_each_time(call, told)
        told = simulator.now()
        told.clear()
        self.assertEqual(simulator.now(), {"a": 5, "b": 5, "c": 5})


if __name__ == "__main__":
    unittest.main()
