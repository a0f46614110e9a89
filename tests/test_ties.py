"""Orders, their outcomes, and the rules that settle a program."""

import unittest
import unittest.mock
from itertools import combinations, permutations

import model
from checks import Checks, EqualToAll, program_of
from tiedsteps import ties
from tiedsteps.errors import NoOrder, NoStart
from tiedsteps.rules import start_state
from tiedsteps.ties import (
    ending, least_rules, like_orders, moves_by, orders, orders_by, outcome, outcomes, quickest, rules, settles,
)
from tiedsteps.verdicts import end_of, faults, is_sole, starts

# Names that do not ascend.
LINE = program_of("q a: b := a", "p b: c := b")
RACE = program_of("q a: b := 1", "p a: b := 2")
BLINK = program_of("p ab: b <= (b=0?1:0)")
# Sole, though the orders make unlike runs: r is awake twice if it goes ahead of p.
TWICE = program_of("p a: b := a", "r ab: c := b")
# Never ends if q goes ahead of p.
HALF = program_of("p a: b := 1", "q a: c := (b=1?1:0)", "r acd: d <= (c=1?d:(d=0?1:0))")
# All depends on whether q is the last one.
THREE = program_of("p a: b := 1", "q a: b := 2", "r a: b := 1; b := b")
ALL = [LINE, RACE, BLINK, TWICE, HALF, THREE]
NO_ORDERS = [None, True, 0, "", "qp", [], (), ["q"], ["q", "q"], ["q", "p", "q"], ["q", "p", "turn"], ["q", "x"], ["q", 1],
             {}, {"q": 1, "p": 2}, {"q", "p"}, EqualToAll(), ["q", EqualToAll()], [["q"], ["p"]]]
NO_VALUES = [None, True, 5, "", "12", (), [], [1], [1, 2, 3], [1, True], [1, "2"], [1, None], [1, 2.0], {}, EqualToAll(),
             [1, EqualToAll()]]
NO_CHANGED = [None, True, 0, "", "a", [], (), ["b"], ["a", "a"], ["a", "b"], {"a": 1}, {"a"}, [0], EqualToAll(),
              [EqualToAll()]]
NO_RULES = [None, True, 0, "", "qp", (), [], ("q",), ("q", "q"), ("q", "p", "q"), ["q", "p"], ("q", "x"), ("x", "p"),
            ("q", "turn"), ("q", 1), (0, 1), (True, False), {"q": "p"}, EqualToAll(), ("q", EqualToAll()),
            (("q", "p"),), ("Q", "p")]


def walk(program, state, order):
    """The pair (outcome, moves) of an order, word by word."""
    met, many = [], 0
    while model.next_states(program, state):
        if state in met:
            return None, None
        met.append(state)
        ahead = model.next_states(program, state)
        state = ahead["turn"] if "turn" in ahead else ahead[[name for name in order if name in ahead][0]]
        many += 1
    return state[0], many


def table(program):
    """The dict from all orders to their lists of pairs (outcome, moves) at all starts."""
    states = [start_state(program, *start) for start in starts(program)]
    return {order: [walk(program, state, order) for state in states] for order in permutations(program.names())}


def keeps(order, some):
    return all(order.index(one) < order.index(other) for one, other in some)


def settles_by_model(told, some):
    kept = [[values for values, _ in told[order]] for order in told if keeps(order, some)]
    return len(kept) > 0 and None not in kept[0] and all(row == kept[0] for row in kept)


def least_by_model(program, told):
    pairs = list(permutations(program.names(), 2))
    for many in range(len(pairs) + 1):
        found = [some for some in combinations(pairs, many) if settles_by_model(told, some)]
        if found:
            return found
    return []


class OrdersTest(Checks):
    def test_by_the_places_of_the_names(self):
        self.assertEqual(orders(LINE), [("q", "p"), ("p", "q")])
        program = program_of("z a: b := 1", "x a: b := 1", "y a: b := 1")
        self.assertEqual(orders(program=program), [
            ("z", "x", "y"), ("z", "y", "x"), ("x", "z", "y"), ("x", "y", "z"), ("y", "z", "x"), ("y", "x", "z"),
        ])
        self.new_each_time(lambda: orders(LINE), [("q", "p"), ("p", "q")])
        self.assertEqual(orders(BLINK), [("p",)])
        five = program_of("s a: b := 1", "r a: b := 1", "t a: b := 1", "p a: b := 1", "q a: b := 1")
        self.assertEqual(orders(five), list(permutations(five.names())))

    def test_rules(self):
        program = program_of("z a: b := 1", "x a: b := 1", "y a: b := 1")
        told = [("z", "x"), ("z", "y"), ("x", "z"), ("x", "y"), ("y", "z"), ("y", "x")]
        self.assertEqual(rules(program=program), told)
        self.new_each_time(lambda: rules(program), told)
        self.assertEqual(rules(BLINK), [])


class OutcomeTest(Checks):
    def test_of_any_values(self):
        self.assertEqual(outcome(RACE, [5, -7], ["a"], ["q", "p"]), (5, 2))
        self.assertEqual(outcome(program=RACE, values=(10 ** 59, 1), changed=("a",), order=("p", "q")), (10 ** 59, 1))
        self.assertIsNone(outcome(BLINK, [5, 7], ["a"], ["p"]))
        self.assertEqual(outcome(HALF, [5, 6, 7, 8], ["a"], ["p", "q", "r"]), (5, 1, 1, 8))
        self.assertIsNone(outcome(HALF, [5, 6, 7, 8], ["a"], ["q", "p", "r"]))

    def test_wrong_values_then_wrong_inputs_then_wrong_orders(self):
        for wrong in NO_VALUES:
            self.refuses_it(NoStart, wrong, outcome, RACE, wrong, ["a"], ["q", "p"])
            self.refuses_it(NoStart, wrong, outcome, RACE, wrong, None, None)
        for wrong in NO_CHANGED:
            self.refuses_it(NoStart, wrong, outcome, RACE, [1, 2], wrong, ["q", "p"])
            self.refuses_it(NoStart, wrong, outcome, RACE, [1, 2], wrong, None)
        for wrong in NO_ORDERS:
            self.refuses_it(NoOrder, wrong, outcome, RACE, [1, 2], ["a"], wrong)

    def test_outcomes(self):
        told = [(1, 2), (1, 2), (1, 2), (2, 2), (2, 2), (2, 2), (0, 2), (0, 2), (0, 2), (0, 2)]
        self.assertEqual(outcomes(RACE, ["q", "p"]), told)
        self.assertEqual(outcomes(program=RACE, order=("p", "q")), [(a, 1) for a, _ in told])
        self.new_each_time(lambda: outcomes(RACE, ("q", "p")), told)
        self.assertEqual(set(outcomes(BLINK, ["p"])), {None})
        for wrong in NO_ORDERS:
            self.refuses_it(NoOrder, wrong, outcomes, RACE, wrong)
            self.refuses_it(NoOrder, wrong, moves_by, RACE, wrong)

    def test_moves_by(self):
        self.assertEqual([moves_by(TWICE, order) for order in orders(TWICE)], [2, 3])
        self.assertEqual(moves_by(program=LINE, order=["p", "q"]), 2)
        self.assertIsNone(moves_by(BLINK, ["p"]))
        self.assertIsNone(moves_by(HALF, ["q", "p", "r"]))
        self.assertEqual(moves_by(program_of("p b: c := 1", inputs="ab"), ["p"]), 1)
        self.assertEqual(moves_by(program_of("p b: c := 1"), ["p"]), 0)


class LikeOrdersTest(Checks):
    def test_of_each(self):
        self.assertEqual(like_orders(LINE), [[("q", "p"), ("p", "q")]])
        self.assertEqual(like_orders(program=RACE), [[("q", "p")], [("p", "q")]])
        self.assertEqual(like_orders(BLINK), [[("p",)]])
        self.assertEqual(like_orders(THREE), [
            [("p", "q", "r"), ("q", "p", "r"), ("q", "r", "p"), ("r", "q", "p")], [("p", "r", "q"), ("r", "p", "q")],
        ])
        self.new_each_time(lambda: like_orders(RACE), [[("q", "p")], [("p", "q")]])
        like_orders(RACE)[0].append("changed")
        self.assertEqual(like_orders(RACE)[0], [("q", "p")])

    def test_those_that_never_end(self):
        # With q ahead of p c is 1 at the end only where b was 1 from before.
        self.assertEqual(like_orders(HALF), [[("p", "q", "r"), ("p", "r", "q"), ("r", "p", "q")],
                                             [("q", "p", "r"), ("q", "r", "p"), ("r", "q", "p")]])

    def test_ending(self):
        self.assertEqual(ending(LINE), [("q", "p"), ("p", "q")])
        self.assertEqual(ending(program=RACE), [("q", "p"), ("p", "q")])
        self.assertEqual(ending(BLINK), [])
        self.assertEqual(ending(HALF), [("p", "q", "r"), ("p", "r", "q"), ("r", "p", "q")])
        self.new_each_time(lambda: ending(RACE), [("q", "p"), ("p", "q")])


class RulesTest(Checks):
    def test_orders_by(self):
        self.assertEqual(orders_by(THREE, [("q", "p")]), [("q", "p", "r"), ("q", "r", "p"), ("r", "q", "p")])
        self.assertEqual(orders_by(program=THREE, some=(("q", "p"), ("p", "r"))), [("q", "p", "r")])
        self.assertEqual(orders_by(THREE, [("q", "p"), ("p", "q")]), [])
        self.assertEqual(orders_by(THREE, [("q", "p"), ("p", "r"), ("r", "q")]), [])
        self.assertEqual(orders_by(THREE, [("q", "p")] * 3), orders_by(THREE, [("q", "p")]))
        self.assertEqual(orders_by(THREE, []), orders(THREE))
        self.assertEqual(orders_by(THREE, ()), orders(THREE))
        self.new_each_time(lambda: orders_by(RACE, [("p", "q")]), [("p", "q")])

    def test_settles(self):
        self.assertIs(settles(RACE, [("q", "p")]), True)
        self.assertIs(settles(program=RACE, some=(("p", "q"),)), True)
        self.assertIs(settles(RACE, []), False)
        self.assertIs(settles(RACE, [("p", "q"), ("q", "p")]), False)
        self.assertIs(settles(LINE, []), True)
        self.assertIs(settles(LINE, [("q", "p"), ("p", "q")]), False)
        self.assertIs(settles(BLINK, []), False)
        self.assertIs(settles(HALF, [("p", "q")]), True)
        self.assertIs(settles(HALF, [("p", "q"), ("q", "r")]), True)
        self.assertIs(settles(HALF, [("q", "p")]), False)
        self.assertIs(settles(HALF, [("p", "r")]), False)
        self.assertIs(settles(THREE, [("p", "q")]), False)
        self.assertIs(settles(THREE, [("q", "p")]), True)
        self.assertIs(settles(THREE, [("p", "q"), ("r", "q")]), True)

    def test_wrong_rules(self):
        for call in (orders_by, settles):
            for wrong in [None, True, 0, "", "qp", {}, {("q", "p"): 1}, {("q", "p")}, EqualToAll(), object()]:
                self.refuses_it(NoOrder, wrong, call, RACE, wrong)
            for wrong in NO_RULES:
                self.refuses_it(NoOrder, wrong, call, RACE, [wrong])
                self.refuses_it(NoOrder, wrong, call, RACE, (("q", "p"), wrong, None))
            self.refuses(NoOrder, ("p", "p"), call, BLINK, [("p", "p")])

    def test_least_rules(self):
        self.assertEqual(least_rules(LINE), [()])
        self.assertEqual(least_rules(TWICE), [()])
        self.assertEqual(least_rules(program=RACE), [(("q", "p"),), (("p", "q"),)])
        self.assertEqual(least_rules(BLINK), [])
        self.assertEqual(least_rules(HALF), [(("p", "q"),)])
        self.assertEqual(least_rules(THREE), [(("q", "p"),), (("q", "r"),)])
        # Who is the last one settles it, which no one rule does.
        program = program_of("r a: b := 1", "p a: b := 2", "q a: b := a")
        self.assertEqual(least_rules(program)[:4], [
            (("r", "p"), ("p", "q")), (("r", "p"), ("q", "r")), (("r", "p"), ("q", "p")), (("r", "q"), ("p", "r")),
        ])
        self.assertEqual(least_rules(program), least_by_model(program, table(program)))
        self.new_each_time(lambda: least_rules(RACE), [(("q", "p"),), (("p", "q"),)])

    def test_that_no_rules_settle(self):
        # The order stays for the whole moment, and each of them has a ring from some start.
        program = program_of("p ab: b <= (a=1?(b=0?1:0):b)", "q ac: c <= (a=0?(c=0?1:0):c)")
        self.assertEqual((least_rules(program), ending(program), quickest(program)), ([], [], []))
        self.assertIs(any(settles(program, some) for some in ([], [("p", "q")], [("q", "p")])), False)

    def test_settled_by_no_rules_though_it_is_not_sole(self):
        # Only runs in which now one and then the other of two goes ahead never end, or part.
        rings = program_of("p b: c := (a=c?c:a)", "q ab: b <= (c=c?c:c); c := b")
        parts = program_of("p b: b <= (c=a?b:1); c <= 1", "q cba: b <= 1; b <= (1=b?c:1)")
        for program, fault in ((rings, "rings"), (parts, "parts")):
            self.assertEqual(faults(program), [fault])
            self.assertTrue(settles_by_model(table(program), ()))
            self.assertEqual(least_rules(program), [()])
            self.assertIs(settles(program, []), True)
            self.assertEqual(like_orders(program), [orders(program)])


class QuickestTest(Checks):
    def test_of_each(self):
        self.assertEqual(quickest(program=TWICE), [("p", "r")])
        self.assertEqual(quickest(LINE), [("q", "p"), ("p", "q")])
        self.assertEqual(quickest(BLINK), [])
        self.assertEqual(quickest(HALF), [("p", "q", "r")])
        self.new_each_time(lambda: quickest(TWICE), [("p", "r")])


class ManyProgramsTest(Checks):
    def test_as_the_model_finds_them(self):
        kinds = []
        for program in [*ALL, *model.some_programs(70, 121)]:
            told = table(program)
            results = {order: [values for values, _ in row] for order, row in told.items()}
            longest = {order: None if None in results[order] else max(many for _, many in told[order]) for order in told}
            for order in told:
                self.assertEqual(outcomes(program, order), results[order])
                self.assertEqual(moves_by(program, order), longest[order])
            self.check_likes(program, results)
            ends = [order for order in told if longest[order] is not None]
            self.assertEqual(ending(program), ends)
            fewest = min([longest[order] for order in ends], default=None)
            self.assertEqual(quickest(program), [order for order in ends if longest[order] == fewest])
            least = least_rules(program)
            self.assertEqual(least, least_by_model(program, told))
            self.assertEqual([settles(program, some) for some in least], [True] * len(least))
            kinds.append(len(least[0]) if least else None)
            for one in rules(program)[:3]:
                for other in rules(program)[-3:]:
                    self.assertIs(settles(program, [one, other]), settles_by_model(told, [one, other]))
        self.assertEqual(set(kinds), {None, 0, 1, 2})

    def test_where_little_is_kept_for_other_starts(self):
        for program in [*ALL, *model.some_programs(20, 125)]:
            told = like_orders(program), least_rules(program), quickest(program)
            with unittest.mock.patch.object(ties, "MOST_KEPT", 1):
                self.assertEqual((like_orders(program), least_rules(program), quickest(program)), told)

    def check_likes(self, program, results):
        rows = []
        for order in results:
            alike = [row for row in rows if results[row[0]] == results[order]]
            if alike:
                alike[0].append(order)
            else:
                rows.append([order])
        self.assertEqual(like_orders(program), rows)

    def test_of_more_processes(self):
        for program in model.some_programs(14, 122, processes=5):
            if len(program) > 3:
                told = table(program)
                results = {order: [values for values, _ in row] for order, row in told.items()}
                self.check_likes(program, results)
                self.assertEqual(ending(program), [order for order in told if None not in results[order]])
                least = least_rules(program)
                if least and len(least[0]) < 3:
                    self.assertEqual(least, least_by_model(program, told))

    def test_of_a_sole_program_all_orders_come_to_the_one_end(self):
        found = 0
        for program in model.some_programs(100, 124):
            if is_sole(program):
                found += 1
                self.assertEqual(least_rules(program), [()])
                for order in orders(program):
                    self.assertEqual(outcomes(program, order), [end_of(program, *start) for start in starts(program)])
        self.assertGreater(found, 20)


if __name__ == "__main__":
    unittest.main()
