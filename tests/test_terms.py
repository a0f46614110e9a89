"""Terms: constants, variables and choices."""

import unittest

from checks import Checks, EqualToAll
from tiedsteps.errors import NoName, NoTerm
from tiedsteps.terms import Term

DEEP2 = "(a=0?abcdefgh:9)"
DEEP3 = "(b=(a=b?1:2)?(c=c?c:b):a)"
FULL3 = "((a=b?c:d)=(a=b?c:d)?(a=b?c:d):(a=b?c:d))"
DEEP4 = "(a=b?(a=b?(a=b?c:d):d):d)"
NO_TEXTS = [
    "", " ", "10", "00", "-1", "+1", "1.0", "A", "aB", "abcdefghi", "a1", "1a", "a_b", "a b", " a", "a ", "a\n",
    "()", "(a)", "(a=b)", "(a=b?c)", "(a=b?c:)", "(a=b?:d)", "(a=?c:d)", "(=b?c:d)", "(a=b?c:d", "a=b?c:d)",
    "a=b?c:d", "(a=b?c:d))", "((a=b?c:d)", "((a=b?c:d))", "(a==b?c:d)", "(a=b??c:d)", "(a=b?c::d)", "(a=b?c:d:e)",
    "(a=b=c?d:e)", "(a?b=c:d)", "(a=b:c?d)", "(a=b?c:d)(a=b?c:d)", "(a=b?c:d)e", "e(a=b?c:d)", "(a= b?c:d)",
    "( a=b?c:d)", "(a=b?c:d )", "(a=b ? c:d)", "(A=b?c:d)", "(a=b?c:D)", "(a=10?c:d)", "(a=b?c:abcdefghi)",
    "[a=b?c:d]", "(a=b?c;d)", "(a=b?c:d}", ")", "(", "?", DEEP4, "(a=b?c:" + DEEP3 + ")", "(" + DEEP3 + "=b?c:d)",
    "(" * 5000, "(a=" * 5000, "a" * 20000, "(a=b?c:" * 2000 + "d" + ")" * 2000,
]
NO_VALUES = [True, False, 10, -1, 10 ** 30, None, [], ["a"], [1], (), ("a",), {}, {"a": 1}, b"a", object(), Term]


class MakingTest(Checks):
    def test_constants(self):
        for number in range(10):
            for value in (number, str(number)):
                term = Term(value)
                self.assertEqual((str(term), term.depth, term.kind), (str(number), 1, "constant"))
                self.assertEqual((term.variables(), term.parts(), len(term)), ([], [], 1))
                self.assertEqual(term.constants(), [number])
                self.assertIs(term.constants()[0].__class__, int)

    def test_variables(self):
        for word in ("a", "z", "turn", "abcdefgh"):
            term = Term(word)
            self.assertEqual((str(term), term.depth, term.kind), (word, 1, "variable"))
            self.assertEqual((term.variables(), term.constants(), term.parts(), len(term)), ([word], [], [], 1))

    def test_choice_of_depth_two(self):
        term = Term(DEEP2)
        self.assertEqual((str(term), term.depth, term.kind, len(term)), (DEEP2, 2, "choice", 4))
        self.assertEqual((term.variables(), term.constants()), (["a", "abcdefgh"], [0, 9]))
        self.assertEqual(term.parts(), [Term("a"), Term(0), Term("abcdefgh"), Term(9)])

    def test_choice_of_depth_three(self):
        term = Term(DEEP3)
        self.assertEqual((str(term), term.depth, term.kind, len(term)), (DEEP3, 3, "choice", 10))
        self.assertEqual((term.variables(), term.constants()), (["a", "b", "c"], [1, 2]))
        self.assertEqual([str(part) for part in term.parts()], ["b", "(a=b?1:2)", "(c=c?c:b)", "a"])
        self.assertEqual([part.depth for part in term.parts()], [1, 2, 2, 1])

    def test_each_part_may_be_deep(self):
        self.assertEqual((Term(FULL3).depth, len(Term(FULL3))), (3, 16))
        for at in range(4):
            parts = ["a", "b", "c", "d"]
            parts[at] = DEEP2
            one, other, same, unlike = parts
            term = Term(f"({one}={other}?{same}:{unlike})")
            self.assertEqual((term.depth, str(term.parts()[at])), (3, DEEP2))

    def test_variables_and_constants_are_ascending(self):
        term = Term("(zz=9?(b=0?aa:5):(b=5?a:9))")
        self.assertEqual((term.variables(), term.constants()), (["a", "aa", "b", "zz"], [0, 5, 9]))

    def test_a_term_makes_an_equal_one(self):
        for value in (3, "abc", DEEP2, DEEP3):
            self.assertEqual(Term(Term(value)), Term(value))
        self.assertEqual(Term(value="a"), Term("a"))

    def test_texts_that_are_none(self):
        for text in NO_TEXTS:
            with self.subTest(text[:50]):
                self.refuses_it(NoTerm, text, Term, text)

    def test_values_that_are_none(self):
        for value in NO_VALUES:
            with self.subTest(value):
                self.refuses_it(NoTerm, value, Term, value)

    def test_told_lists_are_new(self):
        term = Term(DEEP3)
        self.new_each_time(term.variables, ["a", "b", "c"])
        self.new_each_time(term.constants, [1, 2])
        self.new_each_time(term.parts, [Term("b"), Term("(a=b?1:2)"), Term("(c=c?c:b)"), Term("a")])
        self.assertEqual((str(term), len(term)), (DEEP3, 10))

    def test_properties_cannot_be_assigned(self):
        for name in ("depth", "kind"):
            self.assertRaises(AttributeError, setattr, Term("a"), name, 1)


class AskingTest(Checks):
    def test_in(self):
        term = Term("(a=0?bc:(d=9?1:a))")
        for value in ("a", "bc", "d", 0, 1, 9):
            self.assertIs(value in term, True)
        for value in ("b", "c", "0", "", "(d=9?1:a)", 2, -1, True, False, None, [], ["a"], {}, ("a",), Term("a"),
                      Term(1), b"a", EqualToAll()):
            with self.subTest(value):
                self.assertIs(value in term, False)

    def test_equal_is_the_same_text(self):
        self.assertTrue(Term("5") == Term(5))
        self.assertTrue(Term(DEEP3) == Term(DEEP3))
        self.assertFalse(Term(DEEP3) != Term(DEEP3))
        for one, other in (("a", "b"), (1, 2), (DEEP2, DEEP3), ("(a=b?c:d)", "(b=a?c:d)"), ("(a=a?c:d)", "c")):
            self.assertIs(Term(one) == Term(other), False)
            self.assertIs(Term(one) != Term(other), True)

    def test_equal_only_to_terms(self):
        for value in ("a", 1, None, ["a"], EqualToAll()):
            self.assertIs(Term("a") == value, False)
        self.assertIs(Term(1) == 1, False)

    def test_within(self):
        whole = Term(DEEP3)
        for text in (DEEP3, "(a=b?1:2)", "(c=c?c:b)", "a", "b", "c", "1", "2"):
            self.assertIs(Term(text).within(whole), True)
        for text in ("(a=b?1:1)", "(c=c?c:c)", "d", "0", "bc", DEEP2):
            self.assertIs(Term(text).within(whole), False)
        self.assertIs(whole.within(Term("a")), False)
        self.assertIs(Term("a").within(other=Term("a")), True)
        self.assertIs(Term(1).within(Term("a")), False)

    def test_within_takes_only_terms(self):
        for value in ("a", 1, None, True, [], [Term("a")], {}, EqualToAll()):
            self.refuses_it(NoTerm, value, Term("a").within, value)


class ValueTest(Checks):
    def test_constants_and_variables(self):
        self.assertEqual(Term(7)({}), 7)
        self.assertEqual(Term("a")({"a": -12}), -12)
        self.assertEqual(Term("a")(values={"a": 10 ** 50, "b": None, 3: "x"}), 10 ** 50)

    def test_choices(self):
        term = Term("(a=b?c:d)")
        self.assertEqual(term({"a": 3, "b": 3, "c": 1, "d": 2}), 1)
        self.assertEqual(term({"a": 3, "b": 4, "c": 1, "d": 2}), 2)
        self.assertEqual(Term("(a=5?0:9)")({"a": 5}), 0)
        self.assertEqual(Term("(5=a?0:9)")({"a": -5}), 9)

    def test_choices_within_choices(self):
        term = Term("((a=0?b:c)=(a=1?c:b)?(b=c?7:a):(a=b?8:c))")
        self.assertEqual(term({"a": 0, "b": 4, "c": 5}), 0)
        self.assertEqual(term({"a": 0, "b": 4, "c": 4}), 7)
        self.assertEqual(term({"a": 1, "b": 4, "c": 6}), 1)
        self.assertEqual(term({"a": 4, "b": 4, "c": 6}), 8)
        self.assertEqual(term({"a": 5, "b": 4, "c": 6}), 6)

    def test_the_first_name_without_a_number(self):
        term = Term("(d=c?b:a)")
        self.refuses(NoName, "a", term, {})
        self.refuses(NoName, "b", term, {"a": 1})
        self.refuses(NoName, "c", term, {"b": 1, "a": 1})
        self.refuses(NoName, "d", term, {"a": 1, "b": 1, "c": 1})
        for value in (None, "1", True, False, [1], 1.0, (1,)):
            self.refuses(NoName, "b", term, {"a": 1, "b": value})

    def test_a_name_that_is_not_chosen_is_needed_too(self):
        self.refuses(NoName, "b", Term("(a=a?a:b)"), {"a": 1})
        self.refuses(NoName, "b", Term("(0=1?b:2)"), {"a": 1})

    def test_what_is_no_dict(self):
        for value in (None, [], [("a", 1)], (), "a", 1, True):
            self.refuses_it(NoTerm, value, Term("a"), value)
            self.refuses_it(NoTerm, value, Term(1), value)

    def test_the_dict_stays_as_it_was(self):
        values = {"b": 2, "a": 1}
        Term("(a=b?a:b)")(values)
        self.assertEqual(list(values.items()), [("b", 2), ("a", 1)])


class ChoiceTest(Checks):
    def test_of_terms_and_of_what_makes_them(self):
        self.assertEqual(str(Term.choice("a", 1, Term("b"), "(a=b?c:d)")), "(a=1?b:(a=b?c:d))")
        self.assertEqual(Term.choice(0, "9", "abcdefgh", Term(2)), Term("(0=9?abcdefgh:2)"))
        self.assertEqual(Term.choice(same="c", unlike="d", one="a", other="b"), Term("(a=b?c:d)"))
        self.assertEqual(Term.choice(DEEP2, "b", "c", "d").depth, 3)

    def test_the_first_that_is_none_is_told(self):
        for at in range(4):
            for wrong in NO_VALUES + ["", "10", "A", DEEP4]:
                values = ["a", "b", "c", "d"]
                values[at] = wrong
                self.refuses_it(NoTerm, wrong, Term.choice, *values)
        self.refuses(NoTerm, "B", Term.choice, "a", "B", None, True)
        self.refuses(NoTerm, None, Term.choice, "a", "b", None, True)

    def test_one_that_is_too_deep(self):
        for at in range(4):
            values = ["a", "b", "c", "d"]
            values[at] = DEEP3
            one, other, same, unlike = values
            self.refuses(NoTerm, f"({one}={other}?{same}:{unlike})", Term.choice, *values)
        self.refuses(NoTerm, f"(a=b?{DEEP3}:1)", Term.choice, "a", Term("b"), Term(DEEP3), 1)

    def test_no_term_goes_ahead_of_too_deep(self):
        self.refuses(NoTerm, True, Term.choice, DEEP3, "b", "c", True)


class PutTest(Checks):
    def test_some_variables(self):
        term = Term("(a=b?c:(a=1?c:d))")
        self.assertEqual(str(term.put({"a": 5, "c": Term("xy")})), "(5=b?xy:(5=1?xy:d))")
        self.assertEqual(str(term.put({"b": DEEP2})), f"(a={DEEP2}?c:(a=1?c:d))")
        self.assertEqual(term.put({}), term)
        self.assertEqual(term.put(terms={"z": "a"}), term)
        self.assertEqual(str(term), "(a=b?c:(a=1?c:d))")

    def test_constants_and_variables(self):
        self.assertEqual(Term(3).put({"a": 4}), Term(3))
        self.assertEqual(Term("a").put({"a": DEEP3}), Term(DEEP3))
        self.assertEqual(Term("a").put({"a": "7"}), Term(7))

    def test_all_at_once(self):
        term = Term("(a=b?c:d)")
        self.assertEqual(str(term.put({"a": "b", "b": "a"})), "(b=a?c:d)")
        self.assertEqual(str(term.put({"a": "b", "b": "c", "c": "d", "d": "a"})), "(b=c?d:a)")
        self.assertEqual(str(term.put({"d": "a", "c": "d", "b": "c", "a": "b"})), "(b=c?d:a)")
        self.assertEqual(str(term.put({"a": "(a=b?c:d)"})), "((a=b?c:d)=b?c:d)")

    def test_what_is_no_dict_from_words(self):
        for value in (None, [], [("a", "b")], "a", 1, True, (), {"A": "a"}, {1: "a"}, {"": "a"}, {"abcdefghi": 1},
                      {None: 1}, {("a",): 1}, {True: 1}, {"a": "b", "a b": "c"}, {"a": True, "B": 1}):
            with self.subTest(value):
                self.refuses_it(NoTerm, value, Term("a").put, value)

    def test_the_first_item_that_is_no_term(self):
        for wrong in NO_VALUES + ["", "10", "A", DEEP4]:
            self.refuses_it(NoTerm, wrong, Term("a").put, {"a": "b", "b": wrong, "c": "C"})
        self.refuses(NoTerm, "Z", Term("a").put, {"z": "Z", "a": "A"})
        self.refuses(NoTerm, "A", Term("a").put, {"a": "A", "z": "Z"})
        self.refuses(NoTerm, True, Term(1).put, {"z": True})

    def test_one_that_is_too_deep(self):
        self.refuses(NoTerm, f"({DEEP3}=b?c:{DEEP3})", Term("(a=b?c:a)").put, {"a": DEEP3})
        self.refuses(NoTerm, DEEP4, Term("(a=b?(a=b?c:d):d)").put, {"c": "(a=b?c:d)"})
        text = "(a=(b=b?(c=c?(d=d?1:2):3):4)?5:6)"
        self.refuses(NoTerm, text, Term("(a=(b=b?e:4)?5:6)").put, {"e": "(c=c?(d=d?1:2):3)"})

    def test_no_term_goes_ahead_of_too_deep(self):
        self.refuses(NoTerm, True, Term("(a=b?c:d)").put, {"a": DEEP3, "b": True})

    def test_the_dict_stays_as_it_was_and_may_be_changed(self):
        terms = {"b": "a", "a": Term("b")}
        put = Term("(a=b?c:d)").put(terms)
        self.assertEqual(list(terms.items()), [("b", "a"), ("a", Term("b"))])
        terms["a"] = 1
        self.assertEqual(str(put), "(b=a?c:d)")


if __name__ == "__main__":
    unittest.main()
