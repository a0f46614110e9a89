"""The names and arguments of the interface, and the files in which they are defined."""

import ast
import importlib
import inspect
import unittest

from checks import MADE_OF

# For each file its classes, for each of these what is defined in it with its parameters.
INTERFACE = {
    "errors": {name: {"__init__": f"(self, {argument})"} for name, argument in MADE_OF.items()} | {"TiedError": {}},
    "terms": {
        "Term": {
            "__init__": "(self, value)", "choice": "(one, other, same, unlike)", "__str__": "(self)",
            "depth": "property", "kind": "property", "variables": "(self)", "constants": "(self)", "parts": "(self)",
            "__contains__": None, "__len__": "(self)", "__call__": "(self, values)", "put": "(self, terms)",
            "__eq__": None, "within": "(self, other)",
        },
    },
    "processes": {
        "Deed": {
            "__init__": "(self, variable, term, *, late=False)", "variable": "property", "term": "property",
            "late": "property", "of": "(text)", "__str__": "(self)", "__eq__": None, "delayed": "(self)",
        },
        "Process": {
            "__init__": "(self, name, waits, deeds)", "name": "property", "waits": "(self)", "deeds": "(self)",
            "reads": "(self)", "writes": "(self)", "constants": "(self)", "__getitem__": None, "__len__": "(self)",
            "__iter__": "(self)", "listed": "(self)", "__eq__": None, "__contains__": None,
            "delayed": "(self, *indices)",
        },
    },
    "programs": {
        "Program": {
            "__init__": "(self, processes, inputs)", "names": "(self)", "listed": "(self)", "__iter__": "(self)",
            "inputs": "(self)", "variables": "(self)", "constants": "(self)", "__getitem__": None,
            "__contains__": None, "__len__": "(self)", "__eq__": None, "__or__": None, "without": "(self, name)",
            "replaced": "(self, process)", "places": "(self)", "delayed": "(self, places)",
        },
    },
}
STATIC = {("Term", "choice"), ("Deed", "of")}


class InterfaceTest(unittest.TestCase):
    def test_each_class_is_defined_in_its_file(self):
        for name, classes in INTERFACE.items():
            module = importlib.import_module(f"tiedsteps.{name}")
            defined = [node.name for node in ast.parse(inspect.getsource(module)).body if isinstance(node, ast.ClassDef)]
            for held in classes:
                self.assertIn(held, defined)

    def test_each_method_is_defined_in_its_class(self):
        for name, classes in INTERFACE.items():
            module = importlib.import_module(f"tiedsteps.{name}")
            for held, methods in classes.items():
                for method, told in methods.items():
                    with self.subTest(held=held, method=method):
                        self.check(held, method, vars(getattr(module, held))[method], told)

    def check(self, held, method, defined, told):
        self.assertEqual(isinstance(defined, staticmethod), (held, method) in STATIC)
        if told == "property":
            self.assertIsInstance(defined, property)
        elif told is not None:
            called = defined.__func__ if isinstance(defined, staticmethod) else defined
            self.assertEqual(str(inspect.signature(called)), told)


if __name__ == "__main__":
    unittest.main()
