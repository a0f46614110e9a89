"""Wakings, circles, weights and levels."""

import unittest

import model
from checks import NO_NAMES, Checks, program_of
from tiedsteps.errors import NoName
from tiedsteps.rules import start_state
from tiedsteps.wakings import circle, falling, levels, wakes, wakings, weights


# p wakes q at once, q wakes r and s at the end; s stands ahead of r.
CHAIN = program_of("p a: b := a", "s ac: d := 1", "q b: c <= b; c <= a", "r c: d := 0")
# q, r and p go round; q and r, too.
ROUND = program_of("p ac: b := a", "q b: d := b", "r d: c := d; b := d")


class WakesTest(Checks):
    def test_at_once_and_at_the_end(self):
        self.assertIs(wakes(CHAIN, "p", "q"), True)
        self.assertIs(wakes(program=CHAIN, one="q", other="r"), True)
        for one, other in (("q", "p"), ("p", "r"), ("p", "s"), ("r", "q"), ("r", "s"), ("p", "p"), ("q", "q")):
            self.assertIs(wakes(CHAIN, one, other), False)

    def test_it_may_wake_itself_at_the_end_only(self):
        self.assertIs(wakes(program_of("p ab: b := a"), "p", "p"), False)
        self.assertIs(wakes(program_of("p ab: b <= a"), "p", "p"), True)
        self.assertIs(wakes(program_of("p ab: c <= a; b := a"), "p", "p"), False)
        self.assertIs(wakes(program_of("p ab: b := a; b <= a"), "p", "p"), True)

    def test_what_is_only_read_does_not_wake(self):
        self.assertEqual(wakings(program_of("p a: b := a", "q a: c := b")), [])

    def test_wrong_names(self):
        for wrong in ["a", "turn", *NO_NAMES]:
            with self.subTest(wrong):
                self.refuses_it(NoName, wrong, wakes, CHAIN, wrong, "q")
                self.refuses_it(NoName, wrong, wakes, CHAIN, "p", wrong)
                self.refuses_it(NoName, wrong, wakes, CHAIN, wrong, "no")
        self.refuses(NoName, "no", wakes, CHAIN, "no", None)

    def test_pairs_in_order(self):
        self.assertEqual(wakings(CHAIN), [("p", "q"), ("q", "s"), ("q", "r")])
        self.assertEqual(wakings(program=ROUND), [("p", "q"), ("q", "r"), ("r", "p"), ("r", "q")])
        self.assertEqual(wakings(program_of("z ab: b <= a", "y b: b <= a")),
                         [("z", "z"), ("z", "y"), ("y", "z"), ("y", "y")])
        self.new_each_time(lambda: wakings(CHAIN), [("p", "q"), ("q", "s"), ("q", "r")])

    def test_none_wakes_where_it_may_not(self):
        for program in model.some_programs(60, 11):
            state = start_state(program, range_values(program), program.inputs())
            for one, behind in model.table(program, state).items():
                for move, other in behind.items():
                    self.check_woken(program, one, move, other)

    def check_woken(self, program, one, move, other):
        names = program.names()
        ahead, woken = model.opened(program, one)[1], model.opened(program, other)[1]
        if move == "turn":
            wakers = [name for name in names if any(deed.late for deed in program[name].deeds())]
            for name in woken:
                self.assertTrue(any(wakes(program, waker, name) for waker in wakers))
        else:
            for name in woken - ahead:
                self.assertIs(wakes(program, move, name), True)


class CircleTest(Checks):
    def is_circle(self, program, told, many):
        self.assertEqual((told.__class__, len(told)), (list, many))
        for at, name in enumerate(told):
            self.assertIs(wakes(program, name, told[(at + 1) % len(told)]), True)

    def test_none(self):
        for program in (CHAIN, program_of("p ab: b := a"), program_of("p a: b := a", "q a: b := 1")):
            self.assertIsNone(circle(program))

    def test_of_one_name(self):
        self.assertEqual(circle(program_of("p ab: b <= a")), ["p"])
        self.assertEqual(circle(program_of("p a: b := a", "q b: c := b", "r c: b := 1; c <= 1")), ["r"])

    def test_a_shortest_one(self):
        self.is_circle(ROUND, circle(program=ROUND), 2)
        three = program_of("p ac: b := a", "q b: d := b", "r d: c := d")
        self.is_circle(three, circle(three), 3)
        five = program_of("p ae: b := a", "q b: c := b", "r c: d <= c", "s d: e <= d", "t e: e := d")
        self.is_circle(five, circle(five), 4)
        self.new_each_time(lambda: circle(three), circle(three))

    def test_just_where_pairs_go_round(self):
        found = 0
        for program in model.some_programs(200, 12, processes=5):
            told = circle(program)
            shortest = shortest_circle(program)
            if shortest is None:
                self.assertIsNone(told)
            else:
                self.is_circle(program, told, shortest)
                found += 1
        self.assertGreater(found, 30)


class WeightsTest(Checks):
    def test_weights(self):
        # r and s weigh 1; q writes c at the end, once more 1 and both of them; p wakes q at once.
        self.assertEqual(list(weights(CHAIN).items()), [("p", 5), ("s", 1), ("q", 4), ("r", 1)])
        told = weights(program=CHAIN)
        told["p"] = 0
        self.assertEqual(weights(CHAIN)["p"], 5)

    def test_each_that_is_woken_at_once_counts_once(self):
        program = program_of("p a: b := a; c := a; b := 1", "q bc: d := b")
        self.assertEqual(weights(program), {"p": 2, "q": 1})

    def test_each_variable_at_the_end_counts_once_and_with_all_that_wait(self):
        program = program_of("p a: b <= a; c <= a; b <= 1", "q bc: d := b", "r c: d := 1")
        self.assertEqual(weights(program), {"p": 1 + (1 + 1) + (1 + 1 + 1), "q": 1, "r": 1})

    def test_at_once_and_at_the_end_are_both_counted(self):
        program = program_of("p a: b <= a; b := 1", "q b: d := b")
        self.assertEqual(weights(program), {"p": 1 + 1 + (1 + 1), "q": 1})

    def test_a_write_at_the_end_for_which_nobody_waits(self):
        self.assertEqual(weights(program_of("p a: b <= a; c := b")), {"p": 2})

    def test_a_circle(self):
        for program in (ROUND, program_of("p ab: b <= a"), program_of("p a: b := a", "q b: b <= 1")):
            self.assertIsNone(weights(program))
            self.assertIsNone(levels(program))
            self.assertIsNone(falling(program, start_state(program, range_values(program), ["a"])))

    def test_levels(self):
        self.assertEqual(levels(CHAIN), [["s", "r"], ["q"], ["p"]])
        self.assertEqual(levels(program=program_of("p a: b := a", "q a: b := 1")), [["p", "q"]])
        # p may wake one of the first and one of the second level.
        program = program_of("p a: b := a; c := a", "q b: c := 1", "r c: d := 1", "s a: d := 0")
        self.assertEqual(levels(program), [["r", "s"], ["q"], ["p"]])
        self.new_each_time(lambda: levels(CHAIN), [["s", "r"], ["q"], ["p"]])


class FallingTest(Checks):
    def test_those_awake_and_what_is_later(self):
        self.assertEqual(falling(CHAIN, ((0, 1, 2, 3), (0, 1), ())), 6)
        self.assertEqual(falling(CHAIN, ((0, 0, 2, 3), (2,), ())), 4)
        self.assertEqual(falling(program=CHAIN, state=((0, 0, 2, 3), (), ((2, 0),))), 3)
        self.assertEqual(falling(CHAIN, ((0, 0, 2, 3), (1, 3), ((2, 0), (3, 1)))), 2 + 3 + 1)
        self.assertEqual(falling(CHAIN, ((0, 0, 2, 3), (), ())), 0)

    def test_each_move_makes_it_less(self):
        found = 0
        for program in model.some_programs(150, 13, processes=5):
            state = start_state(program, range_values(program), program.inputs())
            if circle(program) is None:
                for one, behind in model.table(program, state).items():
                    for other in behind.values():
                        self.assertLess(falling(program, other), falling(program, one))
                        found += 1
                self.assertLessEqual(model.longest(program, state), falling(program, state))
            else:
                self.assertIsNone(falling(program, state))
        self.assertGreater(found, 200)


def range_values(program):
    return list(range(len(program.variables())))


def shortest_circle(program):
    """How many names a shortest circle has, by the powers of the pairs."""
    pairs = set(wakings(program))
    ways = pairs
    for many in range(1, len(program) + 1):
        if any(one == other for one, other in ways):
            return many
        ways = {(one, last) for one, other in ways for first, last in pairs if other == first}
    return None


if __name__ == "__main__":
    unittest.main()
