"""What [0.2] of the document says of all programs, looked at for many of them."""

import random
import unittest

import model
from checks import Checks
from tiedsteps.alike import alike, common_starts, difference
from tiedsteps.benches import is_run, played
from tiedsteps.commuting import all_commute
from tiedsteps.delays import Delays, helps, least_delays
from tiedsteps.live import Simulator
from tiedsteps.papers import accepts, paper_of
from tiedsteps.programs import Program
from tiedsteps.patterns import exchanged, pattern_of, values_of
from tiedsteps.rules import is_end, start_state, step
from tiedsteps.searches import all_states, ends, longest, ring, to_end
from tiedsteps.verdicts import end_of, fault_of, faults, is_sole, starts
from tiedsteps.wakings import circle, falling

PROGRAMS = model.some_programs(120, 51)


def some_starts(program):
    return list(starts(program))[::4]


class ExchangeTest(Checks):
    """(a) Other values of the same pattern, exchanged one to one, have the same runs."""

    def other_state(self, state, pairs):
        values, awake, later = state
        return (
            tuple(pairs.get(value, value) for value in values),
            awake,
            tuple((place, pairs.get(value, value)) for place, value in later),
        )

    def test_the_same_runs_through_exchanged_states(self):
        for program in PROGRAMS:
            free = [value for value in (0, 1, 2, 3, 4, 5, 6, 7) if value not in program.constants()]
            # Among others free numbers for one another, all at once.
            pairs = dict(zip(free, [free[1], free[0], -5, 10 ** 59, 11, 12, 13, 14]))
            for values, changed in some_starts(program):
                others = exchanged(program, values, pairs)
                self.assertEqual(pattern_of(program, others), pattern_of(program, values))
                self.assertEqual(values_of(program, pattern_of(program, others)), values)
                one, other = start_state(program, values, changed), start_state(program, others, changed)
                told = [self.other_state(state, pairs) for state in all_states(program, one)]
                self.assertEqual(all_states(program, other), told)
                end = end_of(program, values, changed)
                self.assertEqual(end_of(program, others, changed), end and exchanged(program, end, pairs))

    def test_each_move_leads_to_the_exchanged_state(self):
        for program in PROGRAMS[:40]:
            pairs = {value: value + 100 for value in range(20) if value not in program.constants()}
            for start in some_starts(program):
                for state, behind in model.table(program, start_state(program, *start)).items():
                    for move, held in behind.items():
                        other = step(program, self.other_state(state, pairs), move)
                        self.assertEqual(other, self.other_state(held, pairs))


class FallingTest(Checks):
    """(b) Where no names go round in a circle, every run ends, soon enough."""

    def test_it_ends_within_the_falling_number(self):
        found = 0
        for program in PROGRAMS:
            if circle(program) is None:
                found += 1
                for start in some_starts(program):
                    state = start_state(program, *start)
                    self.assertIsNone(ring(program, state))
                    self.assertLessEqual(longest(program, state), falling(program, state))
        self.assertGreater(found, 20)


class CommutingTest(Checks):
    """(c) Where every two processes commute, all runs that end have one length and one end."""

    def test_one_length_and_one_end_or_no_end_at_all(self):
        found = 0
        for program in model.some_programs(400, 52):
            if all_commute(program) and len(program) > 1:
                found += 1
                for start in some_starts(program):
                    state = start_state(program, *start)
                    told = [one for one in all_states(program, state) if is_end(program, one)]
                    if ring(program, state) is None:
                        self.assertEqual(len(told), 1)
                        self.assertEqual(len(to_end(program, state)), longest(program, state))
                    else:
                        self.assertEqual(told, [])
        self.assertGreater(found, 20)


class SoleTest(Checks):
    """(d) A program is sole just if from each start every run ends, and all in the same values."""

    def test_sole_or_a_right_witness(self):
        sole = 0
        for program in PROGRAMS:
            held = True
            for start in starts(program):
                state = start_state(program, *start)
                held = held and model.longest(program, state) is not None and len(model.ends(program, state)) == 1
            self.assertIs(is_sole(program), held)
            sole += held
            for fault in faults(program):
                self.check_witness(program, fault, *fault_of(program, fault))
        self.assertGreater(sole, 20)
        self.assertGreater(len(PROGRAMS) - sole, 20)

    def check_witness(self, program, fault, start, run, second):
        self.assertIn(start, list(starts(program)))
        state = start_state(program, *start)
        if fault == "parts":
            behind = [played(program, state, run), played(program, state, second)]
            self.assertTrue(all(is_end(program, one) for one in behind))
            self.assertNotEqual(behind[0][0], behind[1][0])
        else:
            self.assertTrue(is_run(program, state, run + second) and len(second) > 0)
            self.assertEqual(played(program, state, run), played(program, state, run + second))

    def test_the_one_end_is_told(self):
        for program in PROGRAMS:
            if is_sole(program):
                for start in some_starts(program):
                    self.assertEqual([end_of(program, *start)], ends(program, start_state(program, *start)))


class PapersTest(Checks):
    """(e) Each paper that is accepted is right, whoever wrote it."""

    def test_what_papers_show_is_so(self):
        papers = [paper_of(program) for program in PROGRAMS[:40]]
        for program, paper in zip(PROGRAMS, papers):
            self.assertIs(accepts(paper), True)
            self.assertIs(is_sole(program), paper[0] == "sole")
            # A sole program has no paper of a fault, and one with a fault none that says it is sole.
            for kind, _, *rest in papers:
                if accepts((kind, paper[1], *rest)):
                    self.assertTrue(kind in (faults(program) or ["sole"]))


class DelaysTest(Checks):
    """(f) The least delays make a program sole, and no smaller number of delays does."""

    def test_least_ones(self):
        found = set()
        for program in PROGRAMS[:40]:
            delays = Delays(program)
            found.add(delays.fewest)
            for places in delays:
                self.assertEqual(len(places), delays.fewest)
                self.assertIs(is_sole(delays.joined(places)), True)
                self.assertIs(helps(program, places), True)
            for places, fault, start, run, second in delays.floor():
                self.assertTrue(delays.fewest is None or len(places) < delays.fewest)
                SoleTest.check_witness(self, program.delayed(places), fault, start, run, second)
            self.assertEqual(least_delays(program) == [()], is_sole(program))
        self.assertTrue({0, 1, None} <= found)


class AlikeTest(Checks):
    """(g) Alike just if from each start both have the same ends, and both or neither have a ring."""

    def others(self, program):
        """Programs that can be compared with one, some of them alike to it."""
        names, inputs = program.names(), program.inputs()
        told = [program, Program([program[name] for name in names[::-1]], inputs[::-1])]
        told += [program.delayed([place]) for place in program.places()]
        return told + [rest for rest in [program.without(name) for name in names[1:]]
                       if rest.variables() == program.variables()]

    def same_at_each_start(self, one, other):
        for start in common_starts(one, other):
            state, second = start_state(one, *start), start_state(other, *start)
            if ends(one, state) != ends(other, second) or (ring(one, state) is None) != (ring(other, second) is None):
                return False
        return True

    def test_with_itself_in_either_order_and_over_a_third_one(self):
        found = 0
        for program in [program for program in PROGRAMS if len(program.variables()) <= 3][:10]:
            told = self.others(program)
            alikes = {(i, k) for i, one in enumerate(told) for k, other in enumerate(told) if alike(one, other)}
            for i, one in enumerate(told):
                self.assertIn((i, i), alikes)
                for k, other in enumerate(told):
                    self.assertIs((i, k) in alikes, self.same_at_each_start(one, other))
                    self.assertEqual((i, k) in alikes, (k, i) in alikes)
                    self.assertTrue(i > k or ((i, k) in alikes) == (difference(one, other) is None))
                    found += i != k and (i, k) in alikes
            for i, k in alikes:
                self.assertTrue(all((i, n) in alikes for m, n in alikes if m == k))
        self.assertGreater(found, 5)


class LiveTest(Checks):
    """(h) A live run of a sole program comes to the same values at all moments, whatever the order."""

    def test_whatever_the_order(self):
        chance = random.Random(53)
        found = 0
        for program in [program for program in model.some_programs(150, 54) if is_sole(program) and len(program) > 1]:
            found += 1
            simulators = [Simulator(program, [3] * len(program.variables())) for _ in range(2)]
            for _ in range(12):
                name, value = chance.choice(program.inputs()), chance.randrange(-1, 4)
                for simulator in simulators:
                    simulator.order = chance.sample(program.names(), len(program))
                    simulator.put(name, value)
                    simulator.plan(simulator.moment + 1, name, value + 1)
                    simulator.go(simulator.moment + 1)
                self.assertEqual(simulators[0].now(), simulators[1].now())
            self.assertEqual(simulators[0].trace(), simulators[1].trace())
        self.assertGreater(found, 20)


if __name__ == "__main__":
    unittest.main()
