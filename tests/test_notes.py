"""Notes of programs, starts and runs."""

import unittest

import model
from checks import Checks, EqualToAll, program_of
from tiedsteps.errors import NoNote
from tiedsteps.notes import read_program, read_run, read_start, write_program, write_run, write_start
from tiedsteps.processes import Process
from tiedsteps.programs import Program
from tiedsteps.verdicts import starts

PROGRAM = Program(
    [Process("p", ["b", "a"], ["c := (a=b?1:(b=c?a:9))", "d <= c"]), Process("abcdefgh", ["c"], ["d := 9"])], ["b", "a"]
)
NOTE = """inputs b a
process p waits b a
c := (a=b?1:(b=c?a:9))
d <= c
process abcdefgh waits c
d := 9
"""
ROWS = NOTE.split("\n")[:-1]
# The words of rows as names, where they may be names.
WORDS = Program(
    [
        Process("process", ["inputs", "waits"], ["process := waits", "process <= inputs"]),
        Process("waits", ["process"], ["turn := process"]),
        Process("inputs", ["turn"], ["process := (inputs=waits?turn:process)"]),
        Process("start", ["inputs"], ["turn := turn"]),
        Process("changed", ["changed"], ["turn := inputs"]),
    ],
    ["inputs", "waits", "changed"],
)
NO_TEXTS = [None, True, 0, 1, b"", b"a\n", [], ["a\n"], (), {}, Program, EqualToAll(), "a", "inputs a", " ", NOTE[:-1],
            NOTE + "x", "\na", "\n\n "]
NO_PROGRAMS = [None, True, 0, "", NOTE, [], {}, PROGRAM["p"], Program, EqualToAll()]
NO_NAMES_IN_ROWS = ["", "A", "aB", "a1", "abcdefghi", "a,", "-", "1", ":=", "(a=b?c:d)"]


def text_of(*rows):
    return "".join(row + "\n" for row in rows)


class WriteProgramTest(Checks):
    def test_to_the_sign(self):
        self.assertEqual(write_program(PROGRAM), NOTE)
        self.assertEqual(write_program(program=program_of("p a: b := a")), "inputs a\nprocess p waits a\nb := a\n")

    def test_what_is_no_program(self):
        for wrong in NO_PROGRAMS:
            self.refuses(NoNote, None, write_program, wrong)


class ReadProgramTest(Checks):
    def wrong(self, line, *rows):
        with self.subTest(rows):
            self.refuses(NoNote, line, read_program, text_of(*rows))

    def test_what_is_written_is_read_back(self):
        self.assertEqual(read_program(NOTE), PROGRAM)
        self.assertEqual(read_program(text=NOTE), PROGRAM)
        for program in [WORDS, *model.some_programs(200, 41, processes=5)]:
            self.assertEqual(read_program(write_program(program)), program)

    def test_words_of_rows_as_names(self):
        rows = ["inputs inputs waits changed", "process process waits inputs waits", "process := waits"]
        self.assertEqual(write_program(WORDS).split("\n")[:3], rows)
        program = read_program(text_of("inputs process", "process inputs waits process", "inputs := process"))
        self.assertEqual(program, Program([Process("inputs", ["process"], ["inputs := process"])], ["process"]))
        program = read_program(text_of("inputs waits", "process waits waits waits", "process <= process"))
        self.assertEqual(program, Program([Process("waits", ["waits"], ["process <= process"])], ["waits"]))

    def test_what_is_no_text_or_does_not_end_with_a_line_feed(self):
        for wrong in NO_TEXTS:
            with self.subTest(wrong):
                self.refuses(NoNote, None, read_program, wrong)

    def test_a_wrong_row_of_inputs(self):
        for row in ["", "inputs", "inputs ", "input a", "Inputs a", " inputs a", "inputs  a", "inputs a ", "inputs a  b",
                    "a", "inputs,a", "process p waits a", "b := a", "inputs a := b", "inputs := a", "start 1 changed a"]:
            self.wrong(1, row, *ROWS[1:])
        for name in NO_NAMES_IN_ROWS:
            self.wrong(1, f"inputs {name}", *ROWS[1:])
            self.wrong(1, f"inputs a {name} b", *ROWS[1:])

    def test_a_wrong_row_of_a_process(self):
        rows = ["", "process", "process p", "process p waits", "process p waits ", "process p a", "process waits a",
                "process  p waits a", "process p  waits a", "process p waits  a", " process p waits a",
                "process p waits a ", "Process p waits a", "p waits a", "process p q waits a", "process p wait a",
                "process p waits a  b", "process p: waits a", "inputs a"]
        for row in rows:
            self.wrong(2, ROWS[0], row, *ROWS[2:])
            self.wrong(5, *ROWS[:4], row, *ROWS[5:])
        for name in NO_NAMES_IN_ROWS:
            self.wrong(2, ROWS[0], f"process {name} waits a", *ROWS[2:])
            self.wrong(2, ROWS[0], f"process p waits {name}", *ROWS[2:])
            self.wrong(5, *ROWS[:4], f"process p waits a {name} b", *ROWS[5:])

    def test_a_wrong_row_of_a_deed(self):
        deep = "(a=b?(a=b?(a=b?c:d):d):d)"
        for row in ["", "b", "b :=", "b := ", ":= a", "b a", "b = a", "b:=a", "b  := a", "b :=  a", " b := a", "b := a ",
                    "b := A", "b := 10", "b := -1", "b := (a=b?c)", f"b := {deep}", "b := a b", "B := a", "1 := a",
                    "abcdefghi := a", "b => a", "turn", "inputs a", "b := a;", "b := (a=b ? c:d)"]:
            self.wrong(3, *ROWS[:2], row, *ROWS[3:])
            self.wrong(4, *ROWS[:3], row, *ROWS[4:])
            self.wrong(7, *ROWS, row)

    def test_missing_rows(self):
        self.refuses(NoNote, 1, read_program, "")
        self.wrong(2, ROWS[0])
        self.wrong(3, *ROWS[:2])
        self.wrong(6, *ROWS[:5])
        # The row of a deed that lacks would stand where the next process stands.
        self.wrong(3, *ROWS[:2], *ROWS[4:])
        self.wrong(2, ROWS[0], *ROWS[2:])
        self.wrong(1, *ROWS[1:])
        self.wrong(8, *ROWS, "process q waits a")
        self.wrong(8, *ROWS, "process q waits a", *ROWS[4:])

    def test_rows_that_are_too_many(self):
        self.wrong(2, ROWS[0], *ROWS)
        self.wrong(7, *ROWS, "inputs a")
        self.wrong(7, *ROWS, "")
        self.wrong(7, *ROWS, "", "")
        self.wrong(3, ROWS[0], ROWS[1], *ROWS[1:])
        self.refuses(NoNote, 1, read_program, "\n" + NOTE)

    def test_the_first_wrong_row_is_told(self):
        self.wrong(1, "inputs", "process", "b :=")
        self.wrong(2, "inputs a a", "process", "b :=")
        self.wrong(3, "inputs a a", "process turn waits a a", "b :=")

    def test_rows_that_make_no_program(self):
        good = ["inputs a", "process p waits a", "b := a"]
        self.assertEqual(read_program(text_of(*good)), program_of("p a: b := a"))
        for rows in (
            ["inputs a b c d", *good[1:]],
            ["inputs a a", *good[1:]],
            ["inputs a b", *good[1:]],
            [good[0], "process turn waits a", good[2]],
            [good[0], "process p waits a a", good[2]],
            [good[0], "process p waits a b c d e", good[2]],
            [*good, "b := 1", "b := 1", "b := 1", "b := 1"],
            [*good, *good[1:]],
            [*good, "a := b"],
            [*good, "b := (c=d?e:f)"],
            [*good, "b := (a=1?2:3)"],
            [*good, *[row for name in "qrstu" for row in (f"process {name} waits a", "b <= a")]],
            [*good, *["b := a"] * 3, *[row for name in "qr" for row in (f"process {name} waits a", *["b := a"] * 3)]],
        ):
            self.wrong(0, *rows)


class StartTest(Checks):
    def test_to_the_sign(self):
        self.assertEqual(write_start(PROGRAM, ((1, -20, 0, 10 ** 59), ("a", "b"))),
                         f"start 1 -20 0 {10 ** 59} changed a b\n")
        self.assertEqual(write_start(program=PROGRAM, start=((0, 0, 0, 0), ("b",))), "start 0 0 0 0 changed b\n")

    def test_what_is_written_is_read_back(self):
        start = ((1, -20, 0, -10 ** 59), ("a", "b"))
        self.assertEqual(read_start(PROGRAM, write_start(PROGRAM, start)), start)
        self.assertEqual(read_start(program=PROGRAM, text=write_start(PROGRAM, start)), start)
        for program in model.some_programs(20, 42):
            for told in starts(program):
                back = read_start(program, write_start(program, told))
                self.assertEqual(back, told)
                self.assertEqual((back.__class__, back[0].__class__, back[1].__class__), (tuple,) * 3)

    def test_words_of_rows_as_names(self):
        start = ((1, 2, 3, 4, 5), ("changed", "inputs", "waits"))
        self.assertEqual(write_start(WORDS, start), "start 1 2 3 4 5 changed changed inputs waits\n")
        self.assertEqual(read_start(WORDS, write_start(WORDS, start)), start)
        program = Program([Process("p", ["start"], ["b := start"])], ["start"])
        self.assertEqual(read_start(program, "start 1 2 changed start\n"), ((1, 2), ("start",)))

    def test_what_is_no_start(self):
        wrongs = [None, True, 0, "", "start 1 2 3 4 changed a\n", [], (), {}, ((1, 2, 3, 4),), [(1, 2, 3, 4), ("a",)],
                  ((1, 2, 3, 4), ("a",), ()), ([1, 2, 3, 4], ("a",)), ((1, 2, 3, 4), ["a"]), ((1, 2, 3), ("a",)),
                  ((1, 2, 3, 4, 5), ("a",)), ((1, 2, 3, True), ("a",)), ((1, 2, 3, "4"), ("a",)), ((1, 2, 3, 4), ()),
                  ((1, 2, 3, 4), ("c",)), ((1, 2, 3, 4), ("b", "a")), ((1, 2, 3, 4), ("a", "a")), ((1, 2, 3, 4), "a"),
                  ((1, 2, 3, 4), ("a", None)), ((1, 2, 3, 4), ("a", EqualToAll())), (EqualToAll(), ("a",)), EqualToAll()]
        for wrong in wrongs:
            with self.subTest(wrong):
                self.refuses(NoNote, None, write_start, PROGRAM, wrong)

    def test_what_is_no_program(self):
        for wrong in NO_PROGRAMS:
            self.refuses(NoNote, None, write_start, wrong, ((1, 2, 3, 4), ("a",)))
            self.refuses(NoNote, None, write_start, wrong, None)

    def test_what_is_no_text_or_does_not_end_with_a_line_feed(self):
        for wrong in [*NO_TEXTS, "start 1 2 3 4 changed a", "start 1 2 3 4 changed a\n "]:
            with self.subTest(wrong):
                self.refuses(NoNote, None, read_start, PROGRAM, wrong)

    def test_wrong_rows(self):
        for row in ["", "start", "start 1 2 3 4", "start 1 2 3 4 changed", "start 1 2 3 4 changed ", "start changed a",
                    "1 2 3 4 changed a", "Start 1 2 3 4 changed a", "start  1 2 3 4 changed a", " start 1 2 3 4 changed a",
                    "start 1 2 3 4  changed a", "start 1 2 3 4 changed  a", "start 1 2 3 4 changed a ",
                    "start 1 2 3 4 change a", "start 1 2 3 4 a", "start 1 2 3 4 changed A", "start 1 2 3 4 changed a 1",
                    "start 1 2 3 4 changed abcdefghi", "start a 2 3 4 changed a", "start 1 2 3 4 turn a"]:
            with self.subTest(row):
                self.refuses(NoNote, 1, read_start, PROGRAM, row + "\n")
                self.refuses(NoNote, 1, read_start, PROGRAM, row + "\n" + row + "\n")
        for number in ["01", "-01", "00", "-0", "+1", "--1", "-", "1-", "1.0", "1e1", "0x1", "1_0", ""]:
            with self.subTest(number):
                self.refuses(NoNote, 1, read_start, PROGRAM, f"start 1 {number} 3 4 changed a\n")

    def test_a_row_that_is_missing_or_too_many(self):
        row = "start 1 2 3 4 changed a\n"
        self.refuses(NoNote, 1, read_start, PROGRAM, "")
        for more in (row, "\n", "x\n", "\n\n", row * 3):
            self.refuses(NoNote, 2, read_start, PROGRAM, row + more)
        self.refuses(NoNote, 1, read_start, PROGRAM, "\n" + row)
        self.refuses(NoNote, 2, read_start, PROGRAM, "start 1 changed x x\n" + row)

    def test_rows_that_make_no_start(self):
        for row in ["start 1 2 3 changed a", "start 1 2 3 4 5 changed a", "start 1 2 3 4 changed b a",
                    "start 1 2 3 4 changed a a", "start 1 2 3 4 changed c", "start 1 2 3 4 changed a c",
                    "start 1 2 3 4 changed changed", "start 1 2 3 4 changed turn", "start 1 2 3 4 changed p"]:
            with self.subTest(row):
                self.refuses(NoNote, 0, read_start, PROGRAM, row + "\n")


class RunTest(Checks):
    def test_to_the_sign(self):
        self.assertEqual(write_run(["p", "turn", "abcdefgh"]), "p\nturn\nabcdefgh\n")
        self.assertEqual(write_run(run=("p",)), "p\n")
        self.assertEqual(write_run([]), "")
        self.assertEqual(write_run(()), "")

    def test_what_is_written_is_read_back_as_a_list(self):
        for run in ([], ["p"], ["p", "turn", "p"], ["inputs", "process", "waits", "start", "changed"], ["q"] * 5000):
            self.assertEqual(read_run(write_run(run)), run)
            self.assertEqual(read_run(text=write_run(tuple(run))), run)
        self.new_each_time(lambda: read_run("p\nq\n"), ["p", "q"])

    def test_what_is_no_run(self):
        for wrong in [None, True, 0, "", "p", "p\n", {}, {"p": 1}, {"p"}, iter(["p"]), [None], ["p", ""], ["p", "P"],
                      ["p", "abcdefghi"], ["p q"], ["p\n"], [["p"]], [1], [True], [EqualToAll()], EqualToAll()]:
            with self.subTest(wrong):
                self.refuses(NoNote, None, write_run, wrong)

    def test_what_is_no_text_or_does_not_end_with_a_line_feed(self):
        for wrong in NO_TEXTS:
            with self.subTest(wrong):
                self.refuses(NoNote, None, read_run, wrong)

    def test_wrong_rows(self):
        for row in ["", " ", "P", "p ", " p", "p q", "abcdefghi", "1", "p := q", "p,", "p1"]:
            with self.subTest(row):
                self.refuses(NoNote, 1, read_run, text_of(row))
                self.refuses(NoNote, 3, read_run, text_of("p", "turn", row, "q", row))


if __name__ == "__main__":
    unittest.main()
