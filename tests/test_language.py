"""Those rules of the language for the package's files that a short look at them can tell."""

import ast
import builtins
import pathlib
import unittest

PACKAGE = pathlib.Path(__file__).resolve().parent.parent / "tiedsteps"
BUILTINS = set(
    "len range enumerate zip min max sum abs sorted reversed int str bool list tuple dict set isinstance ord repr "
    "any all divmod iter next super property staticmethod classmethod Exception ValueError TypeError KeyError "
    "IndexError LookupError ZeroDivisionError ArithmeticError OverflowError RuntimeError NotImplementedError "
    "NotImplemented".split()
)
METHODS = set(
    "append clear copy count endswith extend find get index insert isalnum isalpha isdigit islower isspace isupper "
    "items join keys ljust lower lstrip partition pop remove replace reverse rfind rjust rpartition rsplit rstrip "
    "setdefault split splitlines startswith strip update upper values zfill bit_length".split()
)
SPECIAL = set(
    "__init__ __eq__ __repr__ __str__ __len__ __enter__ __exit__ __call__ __iter__ __or__ __iadd__ __contains__ "
    "__getitem__".split()
)
BARRED = (
    ast.AsyncFunctionDef, ast.AsyncFor, ast.AsyncWith, ast.Await, ast.Global, ast.Import, ast.AnnAssign, ast.Div,
    ast.MatMult, ast.GeneratorExp, ast.TryStar,
)
# These may change what they are called for.
CHANGING = {"__init__", "__enter__", "__exit__", "__call__", "__iadd__"}
PURE = ("__eq__", "__repr__", "__str__", "__len__")


def trees():
    return {path.stem: ast.parse(path.read_text()) for path in sorted(PACKAGE.glob("*.py"))}


def nodes(kind):
    """All nodes of a kind, each with a text that tells where it stands."""
    return [
        (f"{name}:{getattr(node, 'lineno', 0)}", node)
        for name, tree in trees().items()
        for node in ast.walk(tree)
        if isinstance(node, kind)
    ]


def is_property(node):
    return any(isinstance(held, ast.Name) and held.id == "property" for held in node.decorator_list)


def is_setter(node):
    return any(isinstance(held, ast.Attribute) and held.attr == "setter" for held in node.decorator_list)


def only_asks_for_none(node):
    """Whether a test asks of nothing but names and attributes whether they are None."""
    if isinstance(node, ast.BoolOp):
        return all(only_asks_for_none(part) for part in node.values)
    if isinstance(node, ast.UnaryOp):
        return isinstance(node.op, ast.Not) and only_asks_for_none(node.operand)
    if not isinstance(node, ast.Compare) or not isinstance(node.left, (ast.Name, ast.Attribute)):
        return False
    side = node.comparators[0]
    return isinstance(node.ops[0], (ast.Is, ast.IsNot)) and isinstance(side, ast.Constant) and side.value is None


def may_stand_by_stars(node, properties):
    """Whether an argument is a name, an attribute off a name, a literal, or a list, tuple or dict of these."""
    if isinstance(node, ast.Attribute):
        return isinstance(node.value, ast.Name) and node.attr not in properties
    if isinstance(node, (ast.List, ast.Tuple)):
        return all(may_stand_by_stars(part, properties) for part in node.elts)
    if isinstance(node, ast.Dict):
        return all(part is not None and may_stand_by_stars(part, properties) for part in node.keys + node.values)
    if isinstance(node, ast.UnaryOp):
        return isinstance(node.op, ast.USub) and isinstance(node.operand, ast.Constant)
    return isinstance(node, (ast.Name, ast.Constant))


def wrong_by_stars(call, properties):
    """Those arguments of a call that may not stand behind or beside its stars."""
    rest = [node.value if isinstance(node, ast.Starred) else node for node in call.args]
    starred = [node.value for node in call.args if isinstance(node, ast.Starred)]
    doubled = [node.value for node in call.keywords if node.arg is None]
    wrong = [node for node in (rest if doubled else starred) if not may_stand_by_stars(node, properties)]
    wrong += [node for node in doubled
              if not isinstance(node, (ast.Name, ast.Attribute)) or not may_stand_by_stars(node, properties)]
    # Beside two stars there are no keywords and no two stars again, and no keyword stands ahead of one star.
    named = [node for node in call.keywords if node.arg is not None]
    last = max([(node.lineno, node.col_offset) for node in starred], default=(0, 0))
    return wrong + doubled[1:] + [node for node in named if doubled or (node.lineno, node.col_offset) < last]


def top_names(tree):
    """What a file defines at its top, imports left out."""
    named = [node.name for node in tree.body if isinstance(node, (ast.ClassDef, ast.FunctionDef))]
    assigned = [target.id for node in tree.body if isinstance(node, ast.Assign) for target in node.targets]
    return named + assigned


class FilesTest(unittest.TestCase):
    def test_files(self):
        for path in PACKAGE.iterdir():
            if path.name == "__pycache__":
                continue
            text = path.read_text()
            lines = text.split("\n")
            self.assertEqual((path.suffix, path.name), (".py", path.name.lower()))
            self.assertLessEqual(len(lines) - 1, 399, path.name)
            self.assertLessEqual(max(len(line) for line in lines), 120, path.name)
            self.assertEqual([sign for sign in text if sign != "\n" and not " " <= sign <= "~"], [], path.name)

    def test_functions_are_short(self):
        for where, node in nodes(ast.FunctionDef):
            self.assertLessEqual(node.end_lineno - node.lineno + 1, 40, where)

    def test_imports(self):
        held = trees()
        for name, tree in held.items():
            for node in ast.walk(tree):
                if isinstance(node, ast.ImportFrom):
                    self.assertIn(node, tree.body)
                    folder, _, file = node.module.partition(".")
                    self.assertEqual((folder, node.level), ("tiedsteps", 0), name)
                    for alias in node.names:
                        self.assertIn(alias.name, top_names(held[file]), name)

    def test_no_file_leads_back_to_itself(self):
        leads = {
            name: [node.module.partition(".")[2] for node in tree.body if isinstance(node, ast.ImportFrom)]
            for name, tree in trees().items()
        }
        while leads:
            free = [name for name in leads if not any(other in leads for other in leads[name])]
            self.assertNotEqual(free, [], leads)
            leads = {name: leads[name] for name in leads if name not in free}


class NodesTest(unittest.TestCase):
    def test_barred_nodes(self):
        self.assertEqual([where for where, _ in nodes(BARRED)], [])

    def test_constants(self):
        for where, node in nodes(ast.Constant):
            self.assertNotIsInstance(node.value, (float, complex), where)
            self.assertNotIn("%", str(node.value), where)

    def test_builtins(self):
        for where, node in nodes(ast.Name):
            if node.id in vars(builtins):
                self.assertIsInstance(node.ctx, ast.Load, where)
                self.assertIn(node.id, BUILTINS, where)

    def test_nothing_is_called_as_a_builtin(self):
        for where, node in nodes((ast.FunctionDef, ast.ClassDef)):
            self.assertNotIn(node.name, vars(builtins), where)
        for where, node in nodes(ast.arg):
            self.assertNotIn(node.arg, vars(builtins), where)
            self.assertIsNone(node.annotation, where)

    def test_special_methods(self):
        for where, node in nodes(ast.FunctionDef):
            if node.name.startswith("__"):
                self.assertIn(node.name, SPECIAL, where)

    def test_methods_that_are_called(self):
        own = {node.name for _, node in nodes(ast.FunctionDef)}
        for where, node in nodes(ast.Call):
            if isinstance(node.func, ast.Attribute):
                self.assertIn(node.func.attr, METHODS | own, where)

    def test_own_names_are_none_of_builtin_values(self):
        taken = {name for kind in (str, int, list, dict, set, bytes) for name in dir(kind)}
        for where, held in nodes(ast.ClassDef):
            for node in held.body:
                if isinstance(node, ast.FunctionDef) and not node.name.startswith("__"):
                    self.assertNotIn(node.name, taken, where)

    def test_is_stands_beside_none(self):
        for where, node in nodes(ast.Compare):
            for sign, side in zip(node.ops, node.comparators):
                if isinstance(sign, (ast.Is, ast.IsNot)):
                    self.assertIsInstance(side, ast.Constant, where)

    def test_pure_methods_assign_nothing(self):
        for where, node in nodes(ast.FunctionDef):
            if node.name in PURE:
                held = [part for part in ast.walk(node) if isinstance(part, (ast.Assign, ast.AugAssign, ast.NamedExpr))]
                self.assertEqual(held, [], where)

    def test_what_is_caught(self):
        own = {node.name for _, node in nodes(ast.ClassDef)}
        for where, node in nodes(ast.ExceptHandler):
            for held in node.type.elts if isinstance(node.type, ast.Tuple) else [node.type]:
                self.assertIn(held.id, own | {"KeyError"}, where)

    def test_operators_and_properties_assign_nothing_in_place(self):
        for where, node in nodes(ast.FunctionDef):
            if node.name in SPECIAL - CHANGING or is_property(node):
                held = [part for part in ast.walk(node) if isinstance(part, (ast.AugAssign, ast.Delete, ast.NamedExpr))]
                stored = [part for part in ast.walk(node) if isinstance(part, (ast.Attribute, ast.Subscript))
                          and isinstance(part.ctx, ast.Store)]
                self.assertEqual(held + stored, [], where)

    def test_rows_of_exit(self):
        for where, node in nodes(ast.FunctionDef):
            if node.name == "__exit__":
                for part in ast.walk(ast.Module(node.body, [])):
                    self.assertNotIsInstance(part, (ast.Call, ast.Subscript, ast.For, ast.While, ast.Raise), where)
                    if isinstance(part, ast.If):
                        self.assertTrue(only_asks_for_none(part.test), where)
                    if isinstance(part, ast.Assign):
                        self.assertEqual([isinstance(held, ast.Attribute) for held in [*part.targets, part.value]],
                                         [True, True], where)


class StarsTest(unittest.TestCase):
    def test_what_stands_by_the_stars_of_calls(self):
        properties = {node.name for _, node in nodes(ast.FunctionDef) if is_property(node)}
        for where, node in nodes(ast.Call):
            self.assertEqual([ast.unparse(part) for part in wrong_by_stars(node, properties)], [], where)

    def test_no_star_stands_in_a_set_or_an_index(self):
        for where, node in nodes((ast.Set, ast.Subscript)):
            inner = node.slice if isinstance(node, ast.Subscript) else node
            self.assertFalse(any(isinstance(part, ast.Starred) for part in ast.walk(inner)), where)

    def test_calls_of_which_this_is_told(self):
        for text in ("f(*xs)", "f(k[0], *xs)", "f(*xs, n)", "f(*box.rows)", "f(*[1, (x, -2)], *(), n=k[0])",
                     "f(**d)", "f(k, *xs, **box.table)", "f(*[{1: x}])"):
            call = ast.parse(text, mode="eval").body
            self.assertEqual(wrong_by_stars(call, {"late"}), [], text)
        for text in ("f(*xs[2])", "f(*xs[1:])", "f(*g())", "f(*box.late)", "f(*a.b.c)", "f(*[xs[0]])", "f(*(x + y))",
                     "f(*[x for x in xs])", "f(*xs, *ys[0])", "f(*(a if b else c))", "f(*[*xs])", "f(**d[0])",
                     "f(**{'a': 1})", "f(k[0], **d)", "f(*xs[0], **d)", "f(n=1, **d)", "f(**d, **e)", "f(n=1, *xs)",
                     "f(**g())", "f(*{1: x[0]})", "f(*[{**d}])"):
            call = ast.parse(text, mode="eval").body
            self.assertNotEqual(wrong_by_stars(call, {"late"}), [], text)


class NamesTest(unittest.TestCase):
    def test_no_name_of_a_class_or_an_import_is_used_within(self):
        for name, tree in trees().items():
            taken = {node.name for node in tree.body if isinstance(node, ast.ClassDef)}
            taken |= {alias.name for node in tree.body if isinstance(node, ast.ImportFrom) for alias in node.names}
            for node in ast.walk(tree):
                used = node.arg if isinstance(node, ast.arg) else None
                if isinstance(node, ast.Name) and isinstance(node.ctx, ast.Store):
                    used = node.id
                self.assertNotIn(used, taken, f"{name}:{getattr(node, 'lineno', 0)}")

    def test_no_name_is_a_property_and_something_else(self):
        properties = [node.name for _, node in nodes(ast.FunctionDef) if is_property(node)]
        methods = {node.name for _, held in nodes(ast.ClassDef) for node in held.body
                   if isinstance(node, ast.FunctionDef) and not is_property(node) and not is_setter(node)}
        attributes = {node.attr for _, node in nodes(ast.Attribute) if isinstance(node.ctx, ast.Store)}
        assigned = {node.name for _, node in nodes(ast.FunctionDef) if is_setter(node)}
        for name in properties:
            self.assertNotIn(name, methods | attributes - assigned)

    def test_no_name_is_a_method_and_an_attribute_of_one_class(self):
        for where, held in nodes(ast.ClassDef):
            methods = {node.name for node in held.body if isinstance(node, ast.FunctionDef)}
            for node in ast.walk(held):
                if isinstance(node, ast.Attribute) and isinstance(node.ctx, ast.Store):
                    self.assertNotIn(node.attr, methods, where)

    def test_generators_are_iterated_at_once_and_have_names_of_their_own(self):
        functions = [node for _, node in nodes(ast.FunctionDef)]
        generators = {node.name for node in functions
                      if any(isinstance(part, (ast.Yield, ast.YieldFrom)) for part in ast.walk(node))}
        self.assertEqual(generators, {"patterns", "starts", "start_graphs", "common_starts"})
        for name in generators:
            self.assertEqual([node.name for node in functions].count(name), 1)
        for name, tree in trees().items():
            loops = [node.iter for node in ast.walk(tree) if isinstance(node, (ast.For, ast.comprehension))]
            loops += [node.args[0] for node in ast.walk(tree) if isinstance(node, ast.Call)
                      and isinstance(node.func, ast.Name) and node.func.id in ("list", "tuple") and node.args]
            for node in ast.walk(tree):
                if isinstance(node, ast.Name) and node.id in generators:
                    held = [loop for loop in loops if isinstance(loop, ast.Call) and loop.func is node]
                    self.assertEqual(len(held), 1, f"{name}:{node.lineno}")


if __name__ == "__main__":
    unittest.main()
