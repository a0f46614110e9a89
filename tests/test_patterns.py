"""Patterns of values."""

import inspect
import itertools
import unittest

from checks import Checks, EqualToAll
from tiedsteps.errors import NoNumber, NoPattern
from tiedsteps.patterns import exchanged, pattern_count, pattern_of, patterns, values_of
from tiedsteps.processes import Process
from tiedsteps.programs import Program

GREAT = 10 ** 59
# Three variables beside no constant, and beside 1 and 4.
FREE = Program([Process("p", ["a"], ["c := b"])], ["a", "b"])
TWO = Program([Process("p", ["a"], ["c := (b=4?1:b)"])], ["a", "b"])
ONE_OF_TWO = Program([Process("p", ["a"], ["b := (a=0?9:b)"])], ["a"])
NO_VALUES = [None, True, 1, "123", b"123", {}, {1: 1, 2: 2, 3: 3}, [], (), [1, 2], [1, 2, 3, 4], (1, 2, 3, 4), [1, 2, "3"],
             [1, 2, None], [1, 2, True], [False, 1, 2], (1, 2, 3.0), [1, 2, [3]], {1, 2, 3}, iter([1, 2, 3]),
             EqualToAll(), [1, 2, EqualToAll()]]


def program_of(variables, constants):
    """A program with two to five variables and so many constants."""
    *names, last = "abcde"[:variables]
    terms = ["0", "5"][:constants] or ["a"]
    return Program([Process("p", names, [f"{last} := {term}" for term in terms])], ["a"])


class PatternOfTest(Checks):
    def test_without_constants(self):
        self.assertEqual(pattern_of(FREE, [7, 7, 7]), (0, 0, 0))
        self.assertEqual(pattern_of(FREE, (9, 8, 9)), (0, 1, 0))
        self.assertEqual(pattern_of(program=FREE, values=[3, 2, 1]), (0, 1, 2))
        self.assertEqual(pattern_of(FREE, [GREAT, -GREAT, GREAT + 1]), (0, 1, 2))
        self.assertEqual(pattern_of(FREE, [-1, GREAT, -1]), (0, 1, 0))

    def test_the_constants_have_the_first_numbers(self):
        self.assertEqual(pattern_of(TWO, [1, 4, 1]), (0, 1, 0))
        self.assertEqual(pattern_of(TWO, [4, 4, 4]), (1, 1, 1))
        self.assertEqual(pattern_of(TWO, [0, 1, 0]), (2, 0, 2))
        self.assertEqual(pattern_of(TWO, [-4, 4, -1]), (2, 1, 3))
        self.assertEqual(pattern_of(TWO, [GREAT, 0, 1]), (2, 3, 0))
        self.assertEqual(pattern_of(TWO, [5, 6, 7]), (2, 3, 4))

    def test_the_values_stay_as_they_were(self):
        values = [3, 2, 1]
        pattern_of(FREE, values)
        self.assertEqual(values, [3, 2, 1])
        self.assertIs(pattern_of(FREE, values).__class__, tuple)

    def test_what_is_no_values(self):
        for wrong in NO_VALUES:
            with self.subTest(wrong):
                self.refuses_it(NoPattern, wrong, pattern_of, FREE, wrong)
                self.refuses_it(NoPattern, wrong, pattern_of, TWO, wrong)


class ValuesOfTest(Checks):
    def test_the_constants_first_then_the_least_numbers(self):
        self.assertEqual(values_of(FREE, (0, 0, 0)), (0, 0, 0))
        self.assertEqual(values_of(FREE, (0, 1, 2)), (0, 1, 2))
        self.assertEqual(values_of(TWO, (0, 1, 0)), (1, 4, 1))
        self.assertEqual(values_of(TWO, (2, 3, 4)), (0, 2, 3))
        self.assertEqual(values_of(program=TWO, pattern=(2, 1, 3)), (0, 4, 2))
        self.assertEqual(values_of(TWO, (2, 2, 0)), (0, 0, 1))
        self.assertEqual(values_of(ONE_OF_TWO, (2, 3)), (1, 2))

    def test_the_next_number_goes_past_constants(self):
        program = Program([Process("p", ["a", "b", "c", "d"], ["e := (a=2?3:b)"])], ["a", "b", "c"])
        self.assertEqual(values_of(program, (2, 3, 4, 5, 6)), (0, 1, 4, 5, 6))

    def test_values_of_each_pattern_have_this_pattern(self):
        for program in (FREE, TWO, ONE_OF_TWO, program_of(5, 2), program_of(4, 1)):
            for row in patterns(program):
                values = values_of(program, row)
                self.assertIs(values.__class__, tuple)
                self.assertEqual(pattern_of(program, values), row)

    def test_tuples_that_are_no_patterns(self):
        for wrong in [(1, 0, 0), (0, 2, 1), (0, 0, 2), (0, 1, 3), (0, 1), (0, 1, 2, 3), (), (-1, 0, 1), (0, -1, 0),
                      (0, True, 0), (False, 1, 0), (0, None, 1), (0, "1", 0), (0, 1.0, 2), (0, (1,), 2), (0, GREAT, 1),
                      (EqualToAll(), 0, 0)]:
            with self.subTest(wrong):
                self.refuses_it(NoPattern, wrong, values_of, FREE, wrong)
        for wrong in [(3, 2, 0), (0, 3, 1), (0, 1, 3), (2, 4, 3), (2, 3, 5), (0, 0, -1), (1, 1, 4)]:
            with self.subTest(wrong):
                self.refuses_it(NoPattern, wrong, values_of, TWO, wrong)

    def test_what_is_no_tuple(self):
        for wrong in [[0, 1, 2], [0, 0, 0], "012", None, True, 0, {}, {0: 0, 1: 1, 2: 2}, iter((0, 1, 2)), EqualToAll()]:
            self.refuses_it(NoPattern, wrong, values_of, FREE, wrong)


class PatternsTest(Checks):
    def test_all_ascending_each_once(self):
        self.assertEqual(list(patterns(FREE)), [(0, 0, 0), (0, 0, 1), (0, 1, 0), (0, 1, 1), (0, 1, 2)])
        self.assertEqual(
            list(patterns(ONE_OF_TWO)),
            [(0, 0), (0, 1), (0, 2), (1, 0), (1, 1), (1, 2), (2, 0), (2, 1), (2, 2), (2, 3)],
        )

    def test_they_are_those_of_all_values(self):
        for program in (FREE, TWO, ONE_OF_TWO, program_of(4, 1), program_of(4, 0)):
            many = len(program.variables())
            told = {pattern_of(program, values) for values in itertools.product(range(-1, 10), repeat=many)}
            self.assertEqual(list(patterns(program)), sorted(told))

    def test_a_generator(self):
        self.assertTrue(inspect.isgenerator(patterns(program=FREE)))
        self.assertEqual(next(patterns(FREE)), (0, 0, 0))


class CountTest(Checks):
    def test_as_many_as_are_listed(self):
        for many in range(2, 6):
            for constants in range(3):
                told = list(patterns(program_of(many, constants)))
                self.assertEqual(pattern_count(many, constants), len(told))
        self.assertEqual(pattern_count(many=3, constants=0), 5)
        self.assertEqual(pattern_count(2, 2), 10)
        self.assertEqual(pattern_count(5, 2), 674)

    def test_of_no_variables(self):
        for constants in range(10):
            self.assertEqual(pattern_count(0, constants), 1)
            self.assertEqual(pattern_count(1, constants), constants + 1)

    def test_as_many_as_counted_by_the_new_values(self):
        # With k of the variables other than the constants, these are put into blocks.
        bell = [1, 1, 2, 5, 15, 52, 203, 877, 4140, 21147]
        for many in range(10):
            self.assertEqual(pattern_count(many, 0), bell[many])
            for constants in range(10):
                told = sum(
                    len(list(itertools.combinations(range(many), k))) * constants ** (many - k) * bell[k]
                    for k in range(many + 1)
                )
                self.assertEqual(pattern_count(many, constants), told)
        self.assertGreater(pattern_count(9, 9), 387 * 10 ** 6)

    def test_the_first_wrong_number_is_told(self):
        for wrong in [-1, 10, GREAT, True, False, None, "1", 1.0, [], [1], (1,), {}, EqualToAll()]:
            self.refuses_it(NoNumber, wrong, pattern_count, wrong, 0)
            self.refuses_it(NoNumber, wrong, pattern_count, 0, wrong)
            self.refuses_it(NoNumber, wrong, pattern_count, wrong, -2)
        self.refuses(NoNumber, 11, pattern_count, 11, True)


class ExchangedTest(Checks):
    def test_right_pairs(self):
        self.assertEqual(exchanged(FREE, [1, 2, 1], {1: 5}), (5, 2, 5))
        self.assertEqual(exchanged(FREE, (1, 2, 3), {3: GREAT, 2: -2}), (1, -2, GREAT))
        self.assertEqual(exchanged(FREE, [1, 2, 1], {}), (1, 2, 1))
        self.assertEqual(exchanged(program=TWO, values=[1, 4, 0], pairs={0: 9}), (1, 4, 9))
        self.assertEqual(exchanged(FREE, [1, 2, 1], {8: 9, 7: 6}), (1, 2, 1))

    def test_all_at_once(self):
        self.assertEqual(exchanged(FREE, [1, 2, 3], {1: 2, 2: 1}), (2, 1, 3))
        self.assertEqual(exchanged(FREE, [1, 2, 3], {1: 2, 2: 3, 3: 1}), (2, 3, 1))
        self.assertEqual(exchanged(FREE, [1, 2, 3], {3: 4, 2: 3, 1: 2}), (2, 3, 4))

    def test_a_number_may_stand_for_itself(self):
        self.assertEqual(exchanged(FREE, [1, 2, 3], {1: 1}), (1, 2, 3))
        self.assertEqual(exchanged(FREE, [1, 2, 3], {1: 1, 2: 5}), (1, 5, 3))

    def test_pairs_with_constants(self):
        for pairs in ({1: 5}, {4: 5}, {0: 1}, {0: 4}, {1: 4, 4: 1}, {1: 1}, {0: 5, 4: 4}, {7: 1}, {1: 7}):
            with self.subTest(pairs):
                self.refuses_it(NoPattern, pairs, exchanged, TWO, [1, 4, 0], pairs)
        self.assertEqual(exchanged(FREE, [1, 4, 0], {1: 4, 4: 1}), (4, 1, 0))

    def test_pairs_that_make_unlike_values_alike(self):
        for pairs in ({1: 2}, {1: 3}, {1: 2, 2: 3}, {2: 1, 3: 2}, {1: 9, 2: 9}):
            with self.subTest(pairs):
                self.refuses_it(NoPattern, pairs, exchanged, FREE, [1, 2, 3], pairs)
        self.assertEqual(exchanged(FREE, [1, 3, 1], {1: 2}), (2, 3, 2))
        self.assertEqual(exchanged(FREE, [1, 1, 1], {1: 2, 2: 3}), (2, 2, 2))

    def test_pairs_to_alike_numbers(self):
        for pairs in ({1: 5, 2: 5}, {7: 5, 8: 5}, {1: 7, 8: 7}):
            with self.subTest(pairs):
                self.refuses_it(NoPattern, pairs, exchanged, FREE, [1, 2, 3], pairs)

    def test_what_is_no_dict_of_numbers(self):
        for wrong in [None, True, 1, "", [], [(1, 5)], ((1, 5),), {1, 5}, {True: 5}, {1: True}, {False: 7}, {"1": 5},
                      {1: "5"}, {1: None}, {None: 1}, {1.0: 5}, {1: 5.0}, {1: [5]}, {(1,): 5}, {1: 5, 2: EqualToAll()},
                      EqualToAll()]:
            with self.subTest(wrong):
                self.refuses_it(NoPattern, wrong, exchanged, FREE, [1, 2, 3], wrong)

    def test_wrong_values_are_told_ahead_of_wrong_pairs(self):
        for wrong in NO_VALUES:
            with self.subTest(wrong):
                self.refuses_it(NoPattern, wrong, exchanged, FREE, wrong, {1: 5})
                self.refuses_it(NoPattern, wrong, exchanged, FREE, wrong, None)

    def test_what_was_handed_in_stays(self):
        values, pairs = [1, 2, 3], {1: 2, 2: 1}
        exchanged(FREE, values, pairs)
        self.assertEqual((values, list(pairs.items())), ([1, 2, 3], [(1, 2), (2, 1)]))


if __name__ == "__main__":
    unittest.main()
