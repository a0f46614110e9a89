"""Deeds and processes."""

import unittest

from checks import Checks, EqualToAll
from tiedsteps.errors import NoDeed, NoProcess
from tiedsteps.processes import Deed, Process
from tiedsteps.terms import Term

DEEP4 = "(a=b?(a=b?(a=b?c:d):d):d)"
NO_WORDS = ["", "A", "aB", "abcdefghi", "a1", "a b", " a", "a\n", "1", 1, True, None, b"a", [], ["a"], ("a",), {}]
NO_TERMS = ["", "10", "A", DEEP4, True, False, 10, -1, None, [], {}, ("a",)]
NO_TEXTS = [
    "", " ", "a", "a :=", "a := ", ":= b", " := b", "a b", "a:=b", "a :=b", "a:= b", "a  := b", "a :=  b", " a := b",
    "a := b ", "a := b\n", "a\n:= b", "a = b", "a =: b", "a := = b", "a := b c", "a := b := c", "a => b", "a < = b",
    "A := b", "abcdefghi := b", "1 := b", "a := B", "a := 10", "a := -1", "a := (a=b?c)", "a <= " + DEEP4,
    "(a=b?c:d) := a", "a := (a=b ? c:d)", "a " * 10000,
]
NO_KINDS = [None, True, 1, b"a := b", [], ["a := b"], ("a", "b"), {}, Term("a"), Deed]


class DeedTest(Checks):
    def test_of_its_parts(self):
        deed = Deed("a", "(b=1?c:2)")
        self.assertEqual((deed.variable, deed.term, deed.late), ("a", Term("(b=1?c:2)"), False))
        self.assertIs(deed.late, False)
        self.assertIs(deed.term.__class__, Term)
        self.assertEqual(str(deed), "a := (b=1?c:2)")
        late = Deed("abcdefgh", 9, late=True)
        self.assertEqual((late.variable, late.term), ("abcdefgh", Term(9)))
        self.assertIs(late.late, True)
        self.assertEqual(str(late), "abcdefgh <= 9")
        self.assertEqual(Deed(term=Term("b"), late=False, variable="a"), Deed("a", "b"))

    def test_late_only_by_name(self):
        self.assertRaises(TypeError, Deed, "a", "b", True)

    def test_each_part_wrong(self):
        for wrong in NO_WORDS:
            self.refuses_it(NoDeed, wrong, Deed, wrong, "b")
        for wrong in NO_TERMS:
            self.refuses_it(NoDeed, wrong, Deed, "a", wrong)
        for wrong in (0, 1, None, "", "True", [], [True]):
            self.refuses_it(NoDeed, wrong, Deed, "a", "b", late=wrong)

    def test_the_first_wrong_part_is_told(self):
        self.refuses(NoDeed, "A", Deed, "A", "B", late=1)
        self.refuses(NoDeed, "B", Deed, "a", "B", late=1)
        self.refuses(NoDeed, 1, Deed, "a", "b", late=1)

    def test_of_a_text(self):
        for text in ("a := b", "abcdefgh := 0", "a <= 9", "a <= (b=(a=b?1:2)?c:d)", "a := a"):
            self.assertEqual(str(Deed.of(text)), text)
        self.assertEqual(Deed.of("a := 5"), Deed("a", 5))
        self.assertEqual(Deed.of(text="a <= (a=b?c:d)"), Deed("a", "(a=b?c:d)", late=True))
        self.assertIs(Deed.of("a := 5").late, False)
        self.assertIs(Deed.of("a <= 5").late, True)

    def test_texts_that_are_none(self):
        for text in NO_TEXTS + NO_KINDS + [Deed("a", "b")]:
            with self.subTest(str(text)[:50]):
                self.refuses_it(NoDeed, text, Deed.of, text)

    def test_delayed(self):
        deed = Deed("a", "b")
        self.assertEqual(deed.delayed(), Deed("a", "b", late=True))
        self.assertEqual(deed.delayed().delayed(), Deed.of("a <= b"))
        self.assertEqual(str(deed), "a := b")

    def test_equal(self):
        self.assertTrue(Deed("a", "1") == Deed("a", 1))
        self.assertFalse(Deed("a", "1") != Deed("a", 1))
        for other in (Deed("b", 1), Deed("a", 2), Deed("a", 1, late=True), "a := 1", None, Term("a"), EqualToAll()):
            self.assertIs(Deed("a", 1) == other, False)
            self.assertIs(Deed("a", 1) != other, True)

    def test_properties_cannot_be_assigned(self):
        for name in ("variable", "term", "late"):
            self.assertRaises(AttributeError, setattr, Deed("a", "b"), name, "c")


class ProcessTest(Checks):
    def process(self):
        return Process("abcdefgh", ["c", "a"], ["z := (b=3?y:1)", Deed("x", "a", late=True), "z := 0"])

    def test_what_it_tells(self):
        process = self.process()
        self.assertEqual(process.name, "abcdefgh")
        self.assertEqual(process.waits(), ["c", "a"])
        deeds = [Deed.of("z := (b=3?y:1)"), Deed.of("x <= a"), Deed.of("z := 0")]
        self.assertEqual(process.deeds(), deeds)
        self.assertEqual(process.listed(), deeds)
        self.assertEqual(list(process), deeds)
        self.assertEqual([process[0], process[1], process[2]], deeds)
        self.assertEqual([deed.__class__ for deed in process.deeds()], [Deed] * 3)
        self.assertEqual(len(process), 3)
        self.assertEqual(process.reads(), ["a", "b", "y"])
        self.assertEqual(process.writes(), ["x", "z"])
        self.assertEqual(process.constants(), [0, 1, 3])

    def test_without_reads_or_constants(self):
        self.assertEqual(Process("p", ["a"], ["a := 1"]).reads(), [])
        self.assertEqual(Process("p", ["a"], ["a := b"]).constants(), [])

    def test_the_fewest_and_the_most(self):
        one = Process("p", ("a",), ("a := a",))
        self.assertEqual((one.waits(), len(one)), (["a"], 1))
        four = Process(name="p", deeds=["a := 1"] * 4, waits=["d", "c", "b", "a"])
        self.assertEqual((four.waits(), len(four)), (["d", "c", "b", "a"], 4))
        self.assertEqual(four.deeds(), [Deed("a", 1)] * 4)

    def test_wrong_names(self):
        for wrong in NO_WORDS + ["turn"]:
            self.refuses(NoProcess, "name", Process, wrong, ["a"], ["b := a"])
        for name in ("turns", "tur", "p"):
            self.assertEqual(Process(name, ["a"], ["turn := turn"]).name, name)

    def test_wrong_waits(self):
        rows = [[], (), ["a", "b", "c", "d", "e"], ["a", "a"], ["a", "b", "c", "b"]]
        rows += [["a", wrong] for wrong in NO_WORDS] + [(wrong,) for wrong in NO_WORDS]
        for waits in rows + ["a", "ab", None, 1, True, {"a": 1}, {"a"}, iter(["a"]), Term("a")]:
            with self.subTest(waits):
                self.refuses(NoProcess, "waits", Process, "p", waits, ["b := a"])

    def test_wrong_deeds(self):
        rows = [[], (), ["a := 1"] * 5, [Deed("a", 1)] * 5]
        rows += [["a := 1", wrong] for wrong in NO_TEXTS + NO_KINDS]
        others = ["a := 1", "", None, 1, True, {"a := 1": 1}, iter(["a := 1"]), Deed("a", 1), self.process()]
        for deeds in rows + others:
            with self.subTest(str(deeds)[:50]):
                self.refuses(NoProcess, "deeds", Process, "p", ["a"], deeds)

    def test_the_first_wrong_part_is_told(self):
        self.refuses(NoProcess, "name", Process, "turn", [], [])
        self.refuses(NoProcess, "name", Process, "turn", ["a"], [])
        self.refuses(NoProcess, "waits", Process, "p", [], [])

    def test_told_lists_are_new(self):
        process = self.process()
        deeds = process.deeds()
        self.new_each_time(process.waits, ["c", "a"])
        self.new_each_time(process.deeds, deeds)
        self.new_each_time(process.listed, deeds)
        self.new_each_time(process.reads, ["a", "b", "y"])
        self.new_each_time(process.writes, ["x", "z"])
        self.new_each_time(process.constants, [0, 1, 3])
        self.assertEqual((list(process), len(process), "changed" in process), (deeds, 3, False))
        self.assertEqual(process, self.process())

    def test_what_was_handed_in_may_be_changed(self):
        waits, deeds = ["a"], ["b := a"]
        process = Process("p", waits, deeds)
        waits.append("c")
        deeds[0] = "c := 1"
        deeds.append("c := 1")
        self.assertEqual(process, Process("p", ["a"], ["b := a"]))
        self.assertEqual((process.waits(), process.writes(), len(process)), (["a"], ["b"], 1))

    def test_what_was_handed_in_stays(self):
        waits, deeds = ["b", "a"], ["b := a", Deed("a", "b")]
        Process("p", waits, deeds).delayed(0, 1)
        self.assertEqual((waits, deeds), (["b", "a"], ["b := a", Deed("a", "b")]))

    def test_wrong_indices(self):
        process = self.process()
        for wrong in (3, -1, 10 ** 20, True, False, None, "0", "z", [0], (0,), {}, slice(0, 1), Deed("x", "a")):
            with self.subTest(wrong):
                self.refuses_it(NoDeed, wrong, process.__getitem__, wrong)
                self.refuses_it(NoDeed, wrong, process.delayed, wrong)
                self.refuses_it(NoDeed, wrong, process.delayed, 0, wrong, "later")

    def test_in(self):
        process = self.process()
        for word in ("a", "b", "c", "x", "y", "z"):
            self.assertIs(word in process, True)
        for value in ("abcdefgh", "d", "", 0, 1, 3, True, None, [], ["a"], {}, ("a",), Term("a"), Deed("x", "a"),
                      EqualToAll()):
            self.assertIs(value in process, False)

    def test_equal_is_all_the_same_in_order(self):
        self.assertTrue(self.process() == self.process())
        self.assertFalse(self.process() != self.process())
        self.assertTrue(Process("p", ("a",), (Deed("b", 1),)) == Process("p", ["a"], ["b := 1"]))
        base = Process("p", ["a", "b"], ["c := 1", "d := 2"])
        others = [
            Process("q", ["a", "b"], ["c := 1", "d := 2"]), Process("p", ["b", "a"], ["c := 1", "d := 2"]),
            Process("p", ["a"], ["c := 1", "d := 2"]), Process("p", ["a", "b"], ["d := 2", "c := 1"]),
            Process("p", ["a", "b"], ["c := 1"]), Process("p", ["a", "b"], ["c := 1", "d <= 2"]),
            "p", None, ["c := 1", "d := 2"], base.deeds(), EqualToAll(),
        ]
        for other in others:
            self.assertIs(base == other, False)
            self.assertIs(base != other, True)

    def test_delayed(self):
        process = Process("p", ["b", "a"], ["c := 1", "d <= 2", "c := 3"])
        self.assertEqual(process.delayed(), process)
        self.assertEqual(process.delayed(0), Process("p", ["b", "a"], ["c <= 1", "d <= 2", "c := 3"]))
        self.assertEqual(process.delayed(1), process)
        self.assertEqual(process.delayed(2, 2), Process("p", ["b", "a"], ["c := 1", "d <= 2", "c <= 3"]))
        self.assertEqual(process.delayed(2, 0), Process("p", ["b", "a"], ["c <= 1", "d <= 2", "c <= 3"]))
        self.assertEqual(process.deeds(), [Deed.of("c := 1"), Deed.of("d <= 2"), Deed.of("c := 3")])

    def test_the_name_cannot_be_assigned(self):
        self.assertRaises(AttributeError, setattr, self.process(), "name", "q")


if __name__ == "__main__":
    unittest.main()
