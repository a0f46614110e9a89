"""The names and arguments of the interface, and the files in which they are defined."""

import ast
import importlib
import inspect
import unittest

from checks import MADE_OF
from tiedsteps import verdicts
from tiedsteps.processes import Process
from tiedsteps.programs import Program

# For each file its classes, for each of these what is defined in it with its parameters.
INTERFACE = {
    "errors": {name: {"__init__": f"(self, {argument})"} for name, argument in MADE_OF.items()} | {"TiedError": {}},
    "terms": {
        "Term": {
            "__init__": "(self, value)", "choice": "(one, other, same, unlike)", "__str__": "(self)",
            "depth": "property", "kind": "property", "variables": "(self)", "constants": "(self)", "parts": "(self)",
            "__contains__": None, "__len__": "(self)", "__call__": "(self, values)", "put": "(self, terms)",
            "__eq__": None, "within": "(self, other)",
        },
    },
    "processes": {
        "Deed": {
            "__init__": "(self, variable, term, *, late=False)", "variable": "property", "term": "property",
            "late": "property", "of": "(text)", "__str__": "(self)", "__eq__": None, "delayed": "(self)",
        },
        "Process": {
            "__init__": "(self, name, waits, deeds)", "name": "property", "waits": "(self)", "deeds": "(self)",
            "reads": "(self)", "writes": "(self)", "constants": "(self)", "__getitem__": None, "__len__": "(self)",
            "__iter__": "(self)", "listed": "(self)", "__eq__": None, "__contains__": None,
            "delayed": "(self, *indices)",
        },
    },
    "programs": {
        "Program": {
            "__init__": "(self, processes, inputs)", "names": "(self)", "listed": "(self)", "__iter__": "(self)",
            "inputs": "(self)", "variables": "(self)", "constants": "(self)", "__getitem__": None,
            "__contains__": None, "__len__": "(self)", "__eq__": None, "__or__": None, "without": "(self, name)",
            "replaced": "(self, process)", "places": "(self)", "delayed": "(self, places)",
        },
    },
    "benches": {
        "Bench": {
            "__init__": "(self, program, values, changed)", "__call__": "(self, move)", "__iadd__": None,
            "state": "(self)", "moves": "(self)", "made": "(self)", "listed": "(self)", "__iter__": "(self)",
            "__len__": "(self)", "__contains__": None, "__getitem__": None, "ended": "property",
            "back": "(self, many=1)", "twin": "(self)", "__eq__": None, "trial": "(self)",
            "trying": "(self, visitor, *, kept=False)",
        },
    },
    "verdicts": {
        "Verdict": {
            "__init__": "(self, program, *, most=2000)", "sole": "property", "longest": "property", "word": "property",
            "faults": "(self)", "__eq__": None,
        },
    },
    "delays": {
        "Delays": {
            "__init__": "(self, program, *, most=2000)", "fewest": "property", "listed": "(self)",
            "__iter__": "(self)", "__len__": "(self)", "__contains__": None, "floor": "(self)",
            "joined": "(self, places)",
        },
    },
    "live": {
        "Simulator": {
            "__init__": "(self, program, values, *, order=None)", "moment": "property", "order": "property",
            "now": "(self)", "put": "(self, name, value)", "run": "(self)", "plan": "(self, moment, name, value)",
            "go": "(self, moment)", "planned": "(self)", "trace": "(self)", "undo": "(self)", "twin": "(self)",
            "__len__": "(self)", "__getitem__": None, "trial": "(self)", "trying": "(self, visitor, *, kept=False)",
        },
    },
    "cases": {
        "Cases": {
            "__init__": "(self, program, *, most=2000)", "listed": "(self)", "__iter__": "(self)",
            "__len__": "(self)", "__call__": "(self, values, changed)", "sources": "(self, pattern, changed)",
            "__contains__": None, "copies": "(self, variable)", "kept": "(self, variable)", "still": "(self)",
            "__eq__": None,
        },
    },
    "console": {"Console": {"__init__": "(self)", "run": "(self, line)"}},
}
# For each file its functions with their parameters.
FUNCTIONS = {
    "patterns": {
        "pattern_of": "(program, values)", "values_of": "(program, pattern)", "patterns": "(program)",
        "pattern_count": "(many, constants)", "exchanged": "(program, values, pairs)",
    },
    "rules": {
        "start_state": "(program, values, changed)", "moves": "(program, state)", "step": "(program, state, move)",
        "is_end": "(program, state)", "values_in": "(program, state)",
    },
    "benches": {
        "played": "(program, state, run)", "is_run": "(program, state, run)", "tried": "(bench, run)",
        "by_order": "(program, state, order, *, most=200)",
    },
    "searches": {
        "all_states": "(program, state, *, most=2000)", "ends": "(program, state, *, most=2000)",
        "to_end": "(program, state, *, most=2000)", "ring": "(program, state, *, most=2000)",
        "longest": "(program, state, *, most=2000)", "parting": "(program, state, *, most=2000)",
        "way_to": "(program, state, goal, *, most=2000)",
    },
    "wakings": {
        "wakes": "(program, one, other)", "wakings": "(program)", "circle": "(program)", "weights": "(program)",
        "falling": "(program, state)", "levels": "(program)",
    },
    "commuting": {
        "commute": "(program, one, other)", "clash": "(program, one, other)", "clashes": "(program)",
        "all_commute": "(program)", "apart": "(program, one, other)", "shift": "(program, state, run, at)",
    },
    "verdicts": {
        "starts": "(program)", "faults": "(program, *, most=2000)", "is_sole": "(program, *, most=2000)",
        "fault_of": "(program, fault, *, most=2000)", "end_of": "(program, values, changed, *, most=2000)",
    },
    "notes": {
        "write_program": "(program)", "write_start": "(program, start)", "write_run": "(run)",
        "read_program": "(text)", "read_start": "(program, text)", "read_run": "(text)",
    },
    "papers": {
        "start_paper": "(program, start, *, most=2000)", "is_start_paper": "(program, start, rows)",
        "paper_of": "(program, *, most=2000)", "accepts": "(paper)",
    },
    "delays": {
        "helps": "(program, places, *, most=2000)", "least_delays": "(program, *, most=2000)",
    },
    "alike": {
        "common_starts": "(one, other)", "alike": "(one, other, *, most=2000)",
        "difference": "(one, other, *, most=2000)", "merged": "(one, other, *, most=2000)",
        "idle": "(program, name, *, most=2000)",
    },
    "live": {"traces": "(program, values, puts, orders)"},
    "slices": {
        "bears": "(program, name, variables)", "sliced": "(program, variables)", "bearing": "(program, variables)",
        "cut": "(program, other, values)", "groups": "(program)",
    },
    "ties": {
        "orders": "(program)", "outcome": "(program, values, changed, order)", "outcomes": "(program, order)",
        "like_orders": "(program)", "ending": "(program)", "rules": "(program)", "orders_by": "(program, some)",
        "settles": "(program, some)", "least_rules": "(program)", "quickest": "(program)",
        "moves_by": "(program, order)",
    },
}
GENERATORS = {("patterns", "patterns"), ("verdicts", "starts"), ("alike", "common_starts")}
STATIC = {("Term", "choice"), ("Deed", "of")}


class InterfaceTest(unittest.TestCase):
    def test_each_class_is_defined_in_its_file(self):
        for name, classes in INTERFACE.items():
            module = importlib.import_module(f"tiedsteps.{name}")
            defined = [node.name for node in ast.parse(inspect.getsource(module)).body if isinstance(node, ast.ClassDef)]
            for held in classes:
                self.assertIn(held, defined)

    def test_each_method_is_defined_in_its_class(self):
        for name, classes in INTERFACE.items():
            module = importlib.import_module(f"tiedsteps.{name}")
            for held, methods in classes.items():
                for method, told in methods.items():
                    with self.subTest(held=held, method=method):
                        self.check(held, method, vars(getattr(module, held))[method], told)

    def test_each_function_is_defined_in_its_file(self):
        for name, functions in FUNCTIONS.items():
            module = importlib.import_module(f"tiedsteps.{name}")
            nodes = ast.parse(inspect.getsource(module)).body
            defined = [node.name for node in nodes if isinstance(node, ast.FunctionDef)]
            for held, told in functions.items():
                with self.subTest(name=name, held=held):
                    self.assertIn(held, defined)
                    called = getattr(module, held)
                    self.assertEqual(str(inspect.signature(called)), told)
                    self.assertEqual(inspect.isgeneratorfunction(called), (name, held) in GENERATORS)

    def test_attributes_are_set_when_an_object_is_created(self):
        program = Program([Process("p", ["a"], ["b := a"])], ["a"])
        self.assertEqual(verdicts.Verdict(program).starts, 2)
        self.assertIn("starts", vars(verdicts.Verdict(program)))

    def check(self, held, method, defined, told):
        self.assertEqual(isinstance(defined, staticmethod), (held, method) in STATIC)
        if told == "property":
            self.assertIsInstance(defined, property)
        elif told is not None:
            called = defined.__func__ if isinstance(defined, staticmethod) else defined
            self.assertEqual(str(inspect.signature(called)), told)


if __name__ == "__main__":
    unittest.main()
