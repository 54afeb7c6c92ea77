"""The package keeps to the small part of Python it is written in, as far as a test can see."""

import ast
import pathlib
import re
import unittest

PACKAGE = pathlib.Path(__file__).resolve().parent.parent / "secretparts"
STATEMENTS = (ast.Assign, ast.AugAssign, ast.If, ast.While, ast.For, ast.Return, ast.Break, ast.Continue, ast.Pass,
              ast.Raise, ast.Try, ast.Expr, ast.FunctionDef, ast.ClassDef, ast.ImportFrom)
UNUSED = (ast.Set, ast.SetComp, ast.DictComp, ast.GeneratorExp, ast.NamedExpr, ast.Starred, ast.Yield, ast.YieldFrom,
          ast.Await, ast.AnnAssign, ast.Div, ast.MatMult, ast.Is, ast.IsNot, ast.Pow, ast.JoinedStr)
BUILT_IN = """len range enumerate zip min max sum abs sorted reversed int str bool list tuple dict set frozenset isinstance
    ord repr any all divmod Exception ValueError KeyError IndexError LookupError ZeroDivisionError True False None""".split()
OWN_METHODS = """append clear copy count endswith extend find get index insert isalnum isalpha isdigit islower isspace
    isupper items join keys ljust lower lstrip partition pop remove replace reverse rfind rjust rpartition rsplit rstrip
    setdefault split splitlines startswith strip update upper values zfill bit_length""".split()
UNSAID = r"""\b(type|typing|typing_extensions|enum|Enum|IntEnum|StrEnum|Flag|IntFlag|Generic|Protocol|ABC|ABCMeta|namedtuple
    |NamedTuple|TypedDict|TYPE_CHECKING|abstractmethod)\b|dataclass|overload|contextmanager"""


def sources():
    return [(path.name, path.read_text("utf-8")) for path in sorted(PACKAGE.glob("*.py"))]


def trees():
    return [(name, ast.parse(source)) for name, source in sources()]


def is_docstring(tree, node):
    return bool(tree.body) and tree.body[0] is node and isinstance(node.value, ast.Constant)


class Files(unittest.TestCase):
    def test_only_plain_files(self):
        found = [path.name for path in PACKAGE.iterdir() if path.name != "__pycache__"]
        self.assertIn("__init__.py", found)
        for name in found:
            self.assertRegex(name, r"^(__init__|[a-z][a-z0-9_]*)\.py$")

    def test_size_and_signs(self):
        for name, source in sources():
            self.assertRegex(source, r"\A[ -~\n]*\Z", name)
            self.assertLessEqual(len(source.splitlines()), 400, name)
            self.assertLessEqual(max(len(line) for line in source.splitlines()), 120, name)
            self.assertIsNone(re.search(UNSAID, source, re.VERBOSE), name)

    def test_imports_are_the_packages_own(self):
        for name, tree in trees():
            for node in ast.walk(tree):
                if isinstance(node, ast.ImportFrom):
                    self.assertIn(node, tree.body, name)
                    self.assertEqual(node.level, 0, name)
                    self.assertRegex(node.module, r"^secretparts\.", name)
                    defined = PACKAGE / (node.module.split(".")[1] + ".py")
                    for alias in node.names:
                        self.assertRegex(defined.read_text(), r"(?m)^((def|class) %s\b|%s =)" % (alias.name, alias.name))


    def test_no_two_files_draw_from_one_another(self):
        drawn = {}
        for name, tree in trees():
            modules = [node.module for node in tree.body if isinstance(node, ast.ImportFrom)]
            drawn[name[:-3]] = [module.split(".")[1] for module in modules]
        self.assertEqual(drawn["__init__"], [])
        while drawn:
            free = [name for name in drawn if not any(other in drawn for other in drawn[name])]
            self.assertNotEqual(free, [], drawn)
            for name in free:
                drawn.pop(name)


class Forms(unittest.TestCase):
    def test_statements_and_expressions(self):
        for name, tree in trees():
            for node in ast.walk(tree):
                where = "%s:%s" % (name, getattr(node, "lineno", 0))
                if isinstance(node, ast.stmt):
                    self.assertIsInstance(node, STATEMENTS, where)
                if isinstance(node, ast.Expr):
                    self.assertTrue(isinstance(node.value, ast.Call) or is_docstring(tree, node), where)
                self.assertNotIsInstance(node, UNUSED, where)
                self.assertFalse(isinstance(node, ast.Constant) and isinstance(node.value, (float, bytes)), where)
                self.assertFalse(getattr(node, "orelse", None) and isinstance(node, (ast.For, ast.While)), where)
                self.assertFalse(getattr(node, "finalbody", None), where)
                if isinstance(node, ast.Assign):
                    self.assertEqual(len(node.targets), 1, where)
                    self.assertNotIsInstance(node.targets[0], (ast.Tuple, ast.List), where)

    def test_the_top_of_a_file_holds_plain_values(self):
        for name, tree in trees():
            self.assertIsNotNone(ast.get_docstring(tree), name)
            for node in tree.body[1:]:
                self.assertIsInstance(node, (ast.ImportFrom, ast.FunctionDef, ast.ClassDef, ast.Assign), name)
                if isinstance(node, ast.Assign):
                    ast.literal_eval(node.value)

    def test_functions(self):
        for name, tree in trees():
            for node in ast.walk(tree):
                if isinstance(node, ast.FunctionDef):
                    where = name + " " + node.name
                    self.assertLessEqual(node.end_lineno - node.lineno + 1, 40, where)
                    self.assertEqual(node.decorator_list, [], where)
                    self.assertIsNone(node.args.vararg or node.args.kwarg or node.returns, where)
                    self.assertEqual(node.args.kwonlyargs + node.args.posonlyargs, [], where)
                if isinstance(node, ast.ClassDef):
                    self.assertLessEqual(len(node.bases), 1, name)
                    self.assertTrue(all(isinstance(inner, ast.FunctionDef) for inner in node.body), name)


class Names(unittest.TestCase):
    def bound(self, tree):
        names = {node.name for node in ast.walk(tree) if isinstance(node, (ast.FunctionDef, ast.ClassDef))}
        names |= {node.name for node in ast.walk(tree) if isinstance(node, ast.ExceptHandler) and node.name}
        names |= {alias.name for node in ast.walk(tree) if isinstance(node, ast.ImportFrom) for alias in node.names}
        names |= {node.arg for node in ast.walk(tree) if isinstance(node, ast.arg)}
        return names | {node.id for node in ast.walk(tree) if isinstance(node, ast.Name) and isinstance(node.ctx, ast.Store)}

    def test_plain_and_not_like_pythons_own(self):
        own = set(dir(__import__("builtins")))
        for name, tree in trees():
            for bound in self.bound(tree) - {"__init__"}:
                self.assertRegex(bound, r"^[A-Za-z][A-Za-z0-9_]*$", name)
                self.assertNotIn(bound, own, name)

    def test_no_local_is_called_like_an_import_or_a_class(self):
        for name, tree in trees():
            taken = {alias.name for node in tree.body if isinstance(node, ast.ImportFrom) for alias in node.names}
            taken |= {node.name for node in tree.body if isinstance(node, ast.ClassDef)}
            locals_of = {node.arg for node in ast.walk(tree) if isinstance(node, ast.arg)}
            locals_of |= {node.id for node in ast.walk(tree) if isinstance(node, ast.Name) and isinstance(node.ctx, ast.Store)}
            self.assertEqual(taken & locals_of, set(), name)

    def test_each_import_is_read(self):
        for name, tree in trees():
            drawn = {alias.name for node in tree.body if isinstance(node, ast.ImportFrom) for alias in node.names}
            self.assertLessEqual(drawn, {node.id for node in ast.walk(tree) if isinstance(node, ast.Name)}, name)

    def test_each_name_is_bound_once_at_the_top(self):
        for name, tree in trees():
            bound = [node.name for node in tree.body if isinstance(node, (ast.FunctionDef, ast.ClassDef))]
            bound += [node.targets[0].id for node in tree.body if isinstance(node, ast.Assign)]
            bound += [alias.name for node in tree.body if isinstance(node, ast.ImportFrom) for alias in node.names]
            self.assertEqual(len(bound), len(set(bound)), name)

    def test_what_is_read_is_bound_or_listed(self):
        for name, tree in trees():
            known = self.bound(tree) | set(BUILT_IN)
            for node in ast.walk(tree):
                if isinstance(node, ast.Name):
                    self.assertIn(node.id, known, name)

    def test_methods_are_listed_or_the_programs_own(self):
        methods, values = set(), set()
        for name, tree in trees():
            for node in ast.walk(tree):
                if isinstance(node, ast.ClassDef):
                    methods |= {inner.name for inner in node.body}
                if isinstance(node, ast.Attribute) and isinstance(node.ctx, ast.Store):
                    values.add(node.attr)
        self.assertEqual(methods & values, set())
        pythons = {name for kind in (str, int, list, dict, set, tuple, bytes) for name in dir(kind)}
        self.assertEqual((methods - {"__init__"} | values) & pythons, set())
        for name, tree in trees():
            for node in ast.walk(tree):
                if isinstance(node, ast.Attribute):
                    self.assertIn(node.attr, methods | values | set(OWN_METHODS), name)


if __name__ == "__main__":
    unittest.main()
