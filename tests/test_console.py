"""The console."""

import random
import unittest
import unittest.mock

import model
from checks import Checks, EqualToAll, program_of
from tiedsteps import console as file
from tiedsteps.commuting import clashes
from tiedsteps.console import Console
from tiedsteps.delays import Delays
from tiedsteps.errors import NeverEnds, NoNote, NothingBack, TooMany
from tiedsteps.live import Simulator
from tiedsteps.notes import write_program
from tiedsteps.verdicts import Verdict, faults, starts
from tiedsteps.wakings import circle

LINE = program_of("p a: b := a", "q b: c := b")
RACE = program_of("p a: b := 1", "q a: b := 2")
BLINK = program_of("p ab: b <= (b=0?1:0)")
# Never ends where a is 5.
LIVE = program_of("p ab: b <= (a=5?(b=0?5:0):b)", "q c: d := c", inputs="ac")
ROUND = program_of("s c: b := c", "p b: c := b", "q a: b := 1")
LOOKS = ["faults", "word", "starts", "longest", "delays", "circle", "clashes"]
OTHERS = ["sim 1 2 3", "put a 5", "order p q", "go", "wait 3", "values", "moment", "undo"]
# What is of none of the forms.
NO_LINES = [
    "", " ", "  ", "x", "help", "Faults", "FAULTS", "faults ", " faults", "faults x", "word word", "starts 1", "longest 1",
    "delays p", "circle p", "clashes p q", "clear x", "clear ", "clears", "inputs", "inputs ", "inputs  a", "inputs A",
    "inputs a ", "inputs 1", "inputs a,b", "inputs toolonger", "inputs a toolonger", "process", "process p", "process p waits",
    "process p waits ", "process p a", "process p wait a", "process P waits a", "process p waits 1", "process waits a",
    "process p waits a  b", "b :=", "b := ", ":= a", "b = a", "b:=a", "b := a ", " b := a", "b  := a", "b := A", "b := 10",
    "b := (a=b?c)", "b := (a=b?c:d", "b := -1", "B := a", "1 := a", "b <= a b", "b => a", "b := ((((a=a?a:a)=a?a:a)=a?a:a)=a?a:a)",
    "sim", "sim ", "sim a", "sim 1 a", "sim 1  2", "sim 01", "sim +1", "sim -0", "sim 1.0", "sim -", "sim --1", "put", "put a",
    "put a b", "put 1 2", "put a 1 2", "put A 1", "put a 01", "put a -0", "put a +1", "order", "order ", "order 1", "order p 1",
    "order p  q", "order P", "go 1", "go x", "goes", "wait", "wait x", "wait -1", "wait 01", "wait 1 2", "wait -0", "wait 1.5",
    "values a", "moment 1", "undo 1", "undo x", "go\n", "faults\n", "inputs a\n", "b := a\n", "\n", "none", "ok", "error",
    "unknown", "open", "turn", "run", "plan 1 a 2", "trace", "process p waits a b := a",
]


def console_with(program):
    told = Console()
    for row in write_program(program).splitlines():
        told.run(row)
    return told


def answers(console, *lines):
    return [console.run(line) for line in lines]


class RowsTest(Checks):
    def test_a_program_in_pieces(self):
        console = Console()
        self.assertEqual(answers(console, "inputs a", "process p waits a", "b := a"), ["ok"] * 3)
        self.assertEqual(answers(console, "starts", "word", "clashes"), ["2", "one", "none"])
        self.assertEqual(answers(console, "process q waits b"), ["ok"])
        self.assertEqual(answers(console, *LOOKS, *OTHERS), ["error"] * 15)
        self.assertEqual(answers(console, "c := b", "starts", "longest", "clashes"), ["ok", "5", "2", "p-q"])
        self.assertEqual(answers(console, "b <= (a=b?c:1)", "faults", "circle"), ["ok", "none", "q"])

    def test_first_the_inputs(self):
        console = Console()
        for line in ("process p waits a", "b := a", "b <= a"):
            self.assertEqual(console.run(line), "error")
        self.assertEqual(console.run("inputs a b"), "ok")
        for line in ("inputs a", "inputs c", "b := a", "b <= a"):
            self.assertEqual(console.run(line), "error")
        self.assertEqual(console.run("process p waits a"), "ok")
        for line in ("inputs c", "process q waits a", "process p waits a"):
            self.assertEqual(console.run(line), "error")
        self.assertEqual(answers(console, "c <= a", "d := b", "inputs c", "process q waits b", "process r waits a"),
                         ["ok", "ok", "error", "ok", "error"])
        self.assertEqual(answers(console, "d := b", "circle"), ["ok", "none"])

    def test_rows_are_judged_by_their_form(self):
        console = Console()
        lines = ["inputs a a", "process turn waits a a", "b := a"]
        self.assertEqual(answers(console, *lines, *LOOKS), ["ok"] * 3 + ["error"] * 7)
        # Too many of each.
        console = Console()
        lines = ["inputs a b c d", "process p waits a b c d e", "b := a", "b := 1", "b := 2", "b := 3", "b := 4"]
        self.assertEqual(answers(console, *lines, *LOOKS, *OTHERS), ["ok"] * 7 + ["error"] * 15)

    def test_words_that_are_lines(self):
        # A deed is one whatever its variable is called.
        console = Console()
        lines = ["inputs put go", "process wait waits put undo", "order := put", "process process waits go", "inputs := go",
                 "process <= wait", "clear := sim"]
        self.assertEqual(answers(console, *lines), ["ok"] * 7)
        console = Console()
        lines = ["inputs inputs", "process waits waits inputs", "faults := inputs", "word <= 1"]
        self.assertEqual(answers(console, *lines, "starts", "faults"), ["ok"] * 4 + ["15", "none"])

    def test_clear(self):
        console = console_with(LINE)
        self.assertEqual(answers(console, "sim 1 2 3", "clear", "starts", "values", "inputs a"),
                         ["ok", "ok", "error", "error", "ok"])
        self.assertEqual(answers(Console(), "clear", "clear", "inputs a"), ["ok"] * 3)
        console = console_with(LINE)
        console.run("clear")
        for row in write_program(RACE).splitlines():
            self.assertEqual(console.run(row), "ok")
        self.assertEqual(console.run("faults"), "parts")

    def test_consoles_go_on_by_themselves(self):
        one, other = Console(), Console()
        self.assertEqual(answers(one, "inputs a", "process p waits a", "b := a", "starts"), ["ok", "ok", "ok", "2"])
        self.assertEqual(answers(other, "starts", "process p waits a"), ["error", "error"])


class FormsTest(Checks):
    def test_what_is_of_no_form(self):
        for start in (Console(), console_with(LINE), console_with(RACE)):
            for line in NO_LINES:
                self.assertEqual(start.run(line), "unknown", line)
        console = console_with(LINE)
        console.run("sim 1 2 3")
        for line in NO_LINES:
            self.assertEqual(console.run(line=line), "unknown", line)
        self.assertEqual(answers(console, "values", "undo", "starts"), ["1 2 3", "nothing", "5"])

    def test_what_is_of_its_form_without_a_program(self):
        console = Console()
        for line in [*LOOKS, *OTHERS, "sim 1", "put x 5", "order x", "wait 0"]:
            self.assertEqual(console.run(line), "error", line)

    def test_what_is_of_its_form_without_a_simulator(self):
        console = console_with(LINE)
        for line in OTHERS[1:]:
            self.assertEqual(console.run(line), "error", line)

    def test_what_is_no_text(self):
        for wrong in (None, True, 0, 5, b"go", [], ["go"], (), {}, {"go": 1}, object(), EqualToAll()):
            self.refuses(NoNote, None, Console().run, wrong)
            self.refuses(NoNote, None, console_with(LINE).run, wrong)


class LooksTest(Checks):
    def test_of_each(self):
        self.assertEqual(answers(console_with(LINE), *LOOKS), ["none", "one", "5", "2", "0", "none", "p-q"])
        self.assertEqual(answers(console_with(RACE), *LOOKS), ["parts", "several", "10", "2", "1", "none", "p-q"])
        self.assertEqual(answers(console_with(BLINK), *LOOKS), ["rings", "rings", "10", "none", "none", "p", "none"])
        self.assertEqual(answers(console_with(ROUND), "circle", "clashes"), ["s p", "s-p s-q p-q"])
        both = program_of("p a: b := 1", "q a: c := b", "r cd: d <= (c=1?d:(d=0?1:0))")
        self.assertEqual(answers(console_with(both), "faults", "word"), ["parts rings", "rings"])

    def test_as_the_functions_tell(self):
        for program in model.some_programs(60, 131):
            console = console_with(program)
            verdict, round_about = Verdict(program), circle(program)
            told = [
                " ".join(faults(program)) or "none", verdict.word, str(verdict.starts),
                "none" if verdict.longest is None else str(verdict.longest),
                "none" if Delays(program).fewest is None else str(Delays(program).fewest),
                "none" if round_about is None else " ".join(round_about),
                " ".join(f"{one}-{other}" for one, other in clashes(program)) or "none",
            ]
            self.assertEqual(answers(console, *LOOKS), told)
            self.assertEqual(told[2], str(len(list(starts(program)))))

    def test_open(self):
        console = console_with(LINE)

        def too_many(*given, **named):
            raise TooMany(2000)

        for name, line in (("faults", "faults"), ("Verdict", "word"), ("Verdict", "longest"), ("Delays", "delays")):
            with unittest.mock.patch.object(file, name, too_many):
                self.assertEqual(answers(console, line, "starts", "circle", "clashes"), ["open", "5", "none", "p-q"])
        self.assertEqual(answers(console, "faults", "word"), ["none", "one"])

    def test_open_where_there_are_really_too_many(self):
        # Five that pass values on in a circle, each of them waiting for two.
        rows = ["process p waits a e", "b := a", "b <= e", "process q waits b c", "c := (b=c?a:b)", "c <= a",
                "process r waits c e", "d := (c=a?e:c)", "d <= b", "process s waits d b", "e := (d=a?b:d)", "e <= c",
                "process t waits a d", "b <= d", "e := b"]
        console = Console()
        self.assertEqual(answers(console, "inputs a", *rows), ["ok"] * 16)
        self.assertEqual(answers(console, "faults", "word", "starts", "longest", "delays", "circle"),
                         ["open", "open", "52", "open", "open", console.run("circle")])
        self.assertNotIn(console.run("circle"), ("open", "error", "unknown"))

    def test_looks_change_nothing(self):
        console = console_with(LINE)
        console.run("sim 1 2 3")
        console.run("put a 5")
        answers(console, *LOOKS, *LOOKS)
        self.assertEqual(answers(console, "values", "go", "undo", "undo", "undo"), ["5 2 3", "2", "ok", "ok", "nothing"])


class SimulatorTest(Checks):
    def test_each_line(self):
        console = console_with(LINE)
        lines = [
            ("sim 1 2 3", "ok"), ("values", "1 2 3"), ("moment", "0"), ("undo", "nothing"), ("put a 5", "ok"),
            ("values", "5 2 3"), ("go", "2"), ("values", "5 5 5"), ("go", "0"), ("wait 3", "ok"), ("moment", "3"),
            ("put a -7", "ok"), ("wait 0", "ok"), ("values", "-7 -7 -7"), ("moment", "3"), ("order q p", "ok"),
            ("wait 10", "ok"), ("moment", "13"), ("undo", "ok"), ("moment", "3"), ("undo", "ok"), ("undo", "ok"),
            ("values", "-7 5 5"), ("undo", "ok"), ("values", "5 5 5"), ("undo", "ok"), ("moment", "0"), ("undo", "ok"),
            ("undo", "ok"), ("values", "5 2 3"), ("undo", "ok"), ("values", "1 2 3"), ("undo", "nothing"),
            ("put a 123456789012345678901234567890", "ok"), ("go", "2"),
            ("values", "123456789012345678901234567890 123456789012345678901234567890 123456789012345678901234567890"),
        ]
        for line, told in lines:
            self.assertEqual(console.run(line), told, line)

    def test_refused(self):
        console = console_with(LINE)
        for line in ("sim 1", "sim 1 2", "sim 1 2 3 4"):
            self.assertEqual(answers(console, line, "values"), ["error", "error"])
        console.run("sim 1 2 3")
        for line in ("sim 1 2", "sim 1 2 3 4", "put b 5", "put x 5", "put p 5", "order p", "order q", "order p p", "order p q p",
                     "order p q turn", "order p x", "inputs a", "inputs b"):
            self.assertEqual(console.run(line), "error", line)
        self.assertEqual(answers(console, "values", "undo", "moment"), ["1 2 3", "nothing", "0"])

    def test_a_refused_simulator_leaves_the_other_one(self):
        console = console_with(LINE)
        answers(console, "sim 1 2 3", "put a 5")
        self.assertEqual(answers(console, "sim 1 2", "values", "undo"), ["error", "5 2 3", "ok"])
        self.assertEqual(answers(console, "sim 7 8 9", "values", "undo"), ["ok", "7 8 9", "nothing"])

    def test_never(self):
        console = console_with(LIVE)
        answers(console, "sim 0 0 0 0", "put c 4", "put a 5")
        for _ in range(2):
            self.assertEqual(answers(console, "go", "wait 0", "wait 7", "values", "moment"),
                             ["never", "never", "never", "5 0 4 0", "0"])
        # What never ended does not count.
        self.assertEqual(answers(console, "undo", "values", "undo", "undo"), ["ok", "0 0 4 0", "ok", "nothing"])

    def test_the_order_is_one(self):
        console = console_with(RACE)
        self.assertEqual(answers(console, "sim 0 0", "put a 5", "go", "values"), ["ok", "ok", "2", "5 2"])
        self.assertEqual(answers(console, "order q p", "put a 6", "go", "values"), ["ok", "ok", "2", "6 1"])

    def test_each_kept_row_ends_it(self):
        for row in ("d := a", "process s waits a"):
            console = console_with(LINE)
            self.assertEqual(answers(console, "sim 1 2 3", row, "values", "go", "undo"), ["ok", "ok", "error", "error", "error"])
        # A row that is not kept does not.
        console = console_with(LINE)
        self.assertEqual(answers(console, "sim 1 2 3", "inputs a", "c :=", "values"), ["ok", "error", "unknown", "1 2 3"])

    def test_behind_the_row_there_is_another_program(self):
        console = console_with(LINE)
        self.assertEqual(answers(console, "sim 1 2 3", "d := c", "sim 1 2 3", "sim 1 2 3 4", "put a 5", "go", "values"),
                         ["ok", "ok", "error", "ok", "ok", "2", "5 5 5 5"])

    def test_as_a_simulator(self):
        chance = random.Random(132)
        for program in model.some_programs(60, 133):
            values = [chance.randrange(3) for _ in program.variables()]
            console, simulator = console_with(program), Simulator(program, values)
            self.assertEqual(console.run("sim " + " ".join(str(value) for value in values)), "ok")
            for _ in range(25):
                name, value, many = chance.choice(program.inputs()), chance.randrange(3), chance.randrange(4)
                kind = chance.choice(["put", "put", "go", "wait", "order", "undo"])
                line = {"put": f"put {name} {value}", "wait": f"wait {many}",
                        "order": "order " + " ".join(chance.sample(program.names(), len(program)))}.get(kind, kind)
                self.assertEqual(console.run(line), self.do(simulator, line.split()))
                self.assertEqual(console.run("values"), " ".join(str(value) for value in simulator.now().values()))
                self.assertEqual(console.run("moment"), str(simulator.moment))

    def do(self, simulator, words):
        try:
            if words[0] == "put":
                simulator.put(words[1], int(words[2]))
            elif words[0] == "go":
                return str(len(simulator.run()))
            elif words[0] == "wait":
                simulator.go(simulator.moment + int(words[1]))
            elif words[0] == "order":
                simulator.order = words[1:]
            else:
                simulator.undo()
        except NeverEnds:
            return "never"
        except NothingBack:
            return "nothing"
        return "ok"


if __name__ == "__main__":
    unittest.main()
