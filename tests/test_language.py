"""Those rules of the language for the package's files that a short look at them can tell."""

import ast
import builtins
import pathlib
import unittest

PACKAGE = pathlib.Path(__file__).resolve().parent.parent / "tiedsteps"
BUILTINS = set(
    "len range enumerate zip min max sum abs sorted reversed int str bool list tuple dict set isinstance ord repr "
    "any all divmod iter next super property staticmethod classmethod Exception ValueError TypeError KeyError "
    "IndexError LookupError ZeroDivisionError ArithmeticError OverflowError RuntimeError NotImplementedError "
    "NotImplemented".split()
)
METHODS = set(
    "append clear copy count endswith extend find get index insert isalnum isalpha isdigit islower isspace isupper "
    "items join keys ljust lower lstrip partition pop remove replace reverse rfind rjust rpartition rsplit rstrip "
    "setdefault split splitlines startswith strip update upper values zfill bit_length".split()
)
SPECIAL = set(
    "__init__ __eq__ __repr__ __str__ __len__ __enter__ __exit__ __call__ __iter__ __or__ __iadd__ __contains__ "
    "__getitem__".split()
)
BARRED = (
    ast.AsyncFunctionDef, ast.AsyncFor, ast.AsyncWith, ast.Await, ast.Global, ast.Import, ast.AnnAssign, ast.Div,
    ast.MatMult, ast.GeneratorExp, ast.TryStar,
)
PURE = ("__eq__", "__repr__", "__str__", "__len__")


def trees():
    return {path.stem: ast.parse(path.read_text()) for path in sorted(PACKAGE.glob("*.py"))}


def nodes(kind):
    """All nodes of a kind, each with a text that tells where it stands."""
    return [
        (f"{name}:{getattr(node, 'lineno', 0)}", node)
        for name, tree in trees().items()
        for node in ast.walk(tree)
        if isinstance(node, kind)
    ]


def top_names(tree):
    """What a file defines at its top, imports left out."""
    named = [node.name for node in tree.body if isinstance(node, (ast.ClassDef, ast.FunctionDef))]
    assigned = [target.id for node in tree.body if isinstance(node, ast.Assign) for target in node.targets]
    return named + assigned


class FilesTest(unittest.TestCase):
    def test_files(self):
        for path in PACKAGE.iterdir():
            if path.name == "__pycache__":
                continue
            text = path.read_text()
            lines = text.split("\n")
            self.assertEqual((path.suffix, path.name), (".py", path.name.lower()))
            self.assertLessEqual(len(lines) - 1, 399, path.name)
            self.assertLessEqual(max(len(line) for line in lines), 120, path.name)
            self.assertEqual([sign for sign in text if sign != "\n" and not " " <= sign <= "~"], [], path.name)

    def test_functions_are_short(self):
        for where, node in nodes(ast.FunctionDef):
            self.assertLessEqual(node.end_lineno - node.lineno + 1, 40, where)

    def test_imports(self):
        held = trees()
        for name, tree in held.items():
            for node in ast.walk(tree):
                if isinstance(node, ast.ImportFrom):
                    self.assertIn(node, tree.body)
                    folder, _, file = node.module.partition(".")
                    self.assertEqual((folder, node.level), ("tiedsteps", 0), name)
                    for alias in node.names:
                        self.assertIn(alias.name, top_names(held[file]), name)

    def test_no_file_leads_back_to_itself(self):
        leads = {
            name: [node.module.partition(".")[2] for node in tree.body if isinstance(node, ast.ImportFrom)]
            for name, tree in trees().items()
        }
        while leads:
            free = [name for name in leads if not any(other in leads for other in leads[name])]
            self.assertNotEqual(free, [], leads)
            leads = {name: leads[name] for name in leads if name not in free}


class NodesTest(unittest.TestCase):
    def test_barred_nodes(self):
        self.assertEqual([where for where, _ in nodes(BARRED)], [])

    def test_constants(self):
        for where, node in nodes(ast.Constant):
            self.assertNotIsInstance(node.value, (float, complex), where)
            self.assertNotIn("%", str(node.value), where)

    def test_builtins(self):
        for where, node in nodes(ast.Name):
            if node.id in vars(builtins):
                self.assertIsInstance(node.ctx, ast.Load, where)
                self.assertIn(node.id, BUILTINS, where)

    def test_nothing_is_called_as_a_builtin(self):
        for where, node in nodes((ast.FunctionDef, ast.ClassDef)):
            self.assertNotIn(node.name, vars(builtins), where)
        for where, node in nodes(ast.arg):
            self.assertNotIn(node.arg, vars(builtins), where)
            self.assertIsNone(node.annotation, where)

    def test_special_methods(self):
        for where, node in nodes(ast.FunctionDef):
            if node.name.startswith("__"):
                self.assertIn(node.name, SPECIAL, where)

    def test_methods_that_are_called(self):
        own = {node.name for _, node in nodes(ast.FunctionDef)}
        for where, node in nodes(ast.Call):
            if isinstance(node.func, ast.Attribute):
                self.assertIn(node.func.attr, METHODS | own, where)

    def test_own_names_are_none_of_builtin_values(self):
        taken = {name for kind in (str, int, list, dict, set, bytes) for name in dir(kind)}
        for where, held in nodes(ast.ClassDef):
            for node in held.body:
                if isinstance(node, ast.FunctionDef) and not node.name.startswith("__"):
                    self.assertNotIn(node.name, taken, where)

    def test_is_stands_beside_none(self):
        for where, node in nodes(ast.Compare):
            for sign, side in zip(node.ops, node.comparators):
                if isinstance(sign, (ast.Is, ast.IsNot)):
                    self.assertIsInstance(side, ast.Constant, where)

    def test_pure_methods_assign_nothing(self):
        for where, node in nodes(ast.FunctionDef):
            if node.name in PURE:
                held = [part for part in ast.walk(node) if isinstance(part, (ast.Assign, ast.AugAssign, ast.NamedExpr))]
                self.assertEqual(held, [], where)

    def test_what_is_caught(self):
        own = {node.name for _, node in nodes(ast.ClassDef)}
        for where, node in nodes(ast.ExceptHandler):
            self.assertIn(node.type.id, own | {"KeyError"}, where)


if __name__ == "__main__":
    unittest.main()
