"""The package's files held against those rules of its language that can be seen by a walk through the code."""

import ast
import builtins
import pathlib
import re
import unittest

PACKAGE = pathlib.Path(__file__).resolve().parent.parent / "glasspages"

OWN_NAMES = set(
    "len range enumerate zip min max sum abs sorted reversed int str bool list tuple dict set frozenset "
    "isinstance ord repr any all divmod Exception ValueError TypeError KeyError IndexError LookupError "
    "ZeroDivisionError ArithmeticError OverflowError RuntimeError NotImplementedError AttributeError "
    "StopIteration".split()
)
OWN_METHODS = set(
    "append clear copy count endswith extend find get index insert isalnum isalpha isdigit islower isspace "
    "isupper items join keys ljust lower lstrip partition pop remove replace reverse rfind rjust rpartition "
    "rsplit rstrip setdefault split splitlines startswith strip update upper values zfill bit_length".split()
)
WORDS = (
    "type typing typing_extensions enum Enum IntEnum StrEnum Flag IntFlag Generic Protocol ABC ABCMeta "
    "namedtuple NamedTuple TypedDict TYPE_CHECKING abstractmethod".split()
)
STATEMENTS = (
    ast.Assign, ast.AugAssign, ast.If, ast.While, ast.For, ast.Return, ast.Break, ast.Continue, ast.Pass,
    ast.Raise, ast.Try, ast.Expr, ast.FunctionDef, ast.ClassDef, ast.ImportFrom,
)
NOT_EXPRESSIONS = (
    ast.SetComp, ast.DictComp, ast.GeneratorExp, ast.NamedExpr, ast.Starred, ast.Div, ast.Yield,
    ast.YieldFrom, ast.Await, ast.Pow,
)
DUNDERS = {"__init__", "__eq__", "__repr__", "__str__", "__len__"}


def files():
    return sorted(PACKAGE.glob("*.py"))


def bound_names(tree):
    for node in ast.walk(tree):
        if isinstance(node, ast.Name) and not isinstance(node.ctx, ast.Load):
            yield node.id
        elif isinstance(node, (ast.FunctionDef, ast.ClassDef)):
            yield node.name
        elif isinstance(node, ast.arg):
            yield node.arg
        elif isinstance(node, ast.Attribute):
            yield node.attr


class Language(unittest.TestCase):
    def each(self):
        for file in files():
            text = file.read_text(encoding="ascii")
            with self.subTest(file=file.name):
                yield file, text, ast.parse(text)

    def test_files(self):
        entries = {entry.name for entry in PACKAGE.iterdir()} - {"__pycache__"}
        self.assertIn("__init__.py", entries)
        self.assertIn("pages.py", entries)
        for name in entries:
            self.assertRegex(name, r"^(__init__|[a-z][a-z0-9_]*)\.py$")
            self.assertNotIn(name[:-3], dir(builtins))

    def test_sizes_and_signs(self):
        for file, text, tree in self.each():
            self.assertRegex(text, r"^[ -~\n]*$")
            self.assertLessEqual(len(text.splitlines()), 400)
            self.assertLessEqual(max(map(len, text.splitlines())), 120)
            for node in ast.walk(tree):
                if isinstance(node, ast.FunctionDef):
                    self.assertLessEqual(node.end_lineno - node.lineno + 1, 40, node.name)

    def test_words(self):
        for file, text, tree in self.each():
            self.assertEqual(set(re.findall(r"\w+", text)) & set(WORDS), set())
            self.assertNotRegex(text, "dataclass|overload|contextmanager")

    def test_imports(self):
        drawn_from = {}
        for file, text, tree in self.each():
            drawn_from[file.stem] = []
            for node in tree.body:
                if isinstance(node, ast.ImportFrom):
                    self.assertRegex(node.module, r"^glasspages\.[a-z_]+$")
                    self.assertTrue(all(alias.name != "*" and alias.asname is None for alias in node.names))
                    source = ast.parse((PACKAGE / (node.module.split(".")[1] + ".py")).read_text())
                    defined = {getattr(row, "name", None) or row.targets[0].id for row in source.body
                               if isinstance(row, (ast.FunctionDef, ast.ClassDef, ast.Assign))}
                    self.assertLessEqual({alias.name for alias in node.names}, defined)
                    drawn_from[file.stem].append(node.module.split(".")[1])
        while drawn_from:
            free = [name for name, others in drawn_from.items() if not set(others) & set(drawn_from)]
            self.assertTrue(free, f"files draw from one another: {drawn_from}")
            for name in free:
                del drawn_from[name]

    def test_statements(self):
        for file, text, tree in self.each():
            for node in tree.body:
                allowed = (ast.ImportFrom, ast.FunctionDef, ast.ClassDef, ast.Assign)
                docstring = node is tree.body[0] and isinstance(node, ast.Expr)
                self.assertTrue(docstring or isinstance(node, allowed), ast.dump(node)[:80])
            for node in ast.walk(tree):
                if isinstance(node, ast.stmt):
                    self.assertIsInstance(node, STATEMENTS)
                if isinstance(node, ast.Assign):
                    self.assertEqual(len(node.targets), 1)
                    self.assertNotIsInstance(node.targets[0], (ast.Tuple, ast.List))
                if isinstance(node, (ast.For, ast.While)):
                    self.assertEqual(node.orelse, [])
                if isinstance(node, ast.Try):
                    self.assertEqual(node.finalbody, [])
                if isinstance(node, ast.FunctionDef):
                    self.assertEqual(node.decorator_list, [])
                    self.assertFalse(node.args.vararg or node.args.kwarg or node.args.kwonlyargs)

    def test_values_at_the_top(self):
        for file, text, tree in self.each():
            rows = [node for node in tree.body if isinstance(node, ast.Assign)]
            names = [node.targets[0].id for node in rows]
            names += [node.name for node in tree.body if isinstance(node, (ast.FunctionDef, ast.ClassDef))]
            names += [alias.name for node in tree.body if isinstance(node, ast.ImportFrom) for alias in node.names]
            self.assertEqual(len(names), len(set(names)))
            for row in rows:
                for node in ast.walk(row.value):
                    plain = (ast.Constant, ast.Tuple, ast.List, ast.Dict, ast.UnaryOp, ast.USub, ast.Load)
                    self.assertIsInstance(node, plain)
                    if isinstance(node, (ast.List, ast.Dict)):
                        self.assertIs(node, row.value, "a list or dict within another value")

    def test_locals(self):
        for file, text, tree in self.each():
            taken = {node.name for node in tree.body if isinstance(node, ast.ClassDef)}
            taken |= {alias.name for node in tree.body if isinstance(node, ast.ImportFrom) for alias in node.names}
            for part in ast.walk(tree):
                if isinstance(part, ast.FunctionDef):
                    bound = {node.arg for node in ast.walk(part) if isinstance(node, ast.arg)}
                    bound |= {node.id for node in ast.walk(part)
                              if isinstance(node, ast.Name) and isinstance(node.ctx, ast.Store)}
                    self.assertEqual(bound & taken, set(), part.name)

    def test_methods_are_no_values(self):
        methods, values = set(), set()
        for file, text, tree in self.each():
            for node in ast.walk(tree):
                if isinstance(node, ast.ClassDef):
                    methods |= {row.name for row in node.body if isinstance(row, ast.FunctionDef)}
                if isinstance(node, ast.Attribute) and isinstance(node.ctx, ast.Store):
                    values.add(node.attr)
        self.assertEqual(methods & values, set())

    def test_expressions(self):
        for file, text, tree in self.each():
            for node in ast.walk(tree):
                self.assertNotIsInstance(node, NOT_EXPRESSIONS)
                if isinstance(node, ast.Constant):
                    self.assertIsInstance(node.value, (int, str, type(None)))
                    self.assertNotIn("%", str(node.value))
                if isinstance(node, ast.ListComp):
                    self.assertEqual(len(node.generators), 1)
                    self.assertLessEqual(len(node.generators[0].ifs), 1)
                if isinstance(node, ast.Compare):
                    for sign, right in zip(node.ops, node.comparators):
                        if isinstance(sign, (ast.Is, ast.IsNot)):
                            self.assertIsInstance(right, ast.Constant)

    def test_names(self):
        for file, text, tree in self.each():
            for name in bound_names(tree):
                self.assertTrue(name in DUNDERS or re.match(r"^[A-Za-z][A-Za-z0-9_]*$", name), name)
            bound = {node.id for node in ast.walk(tree)
                     if isinstance(node, ast.Name) and isinstance(node.ctx, ast.Store)}
            bound |= {node.arg for node in ast.walk(tree) if isinstance(node, ast.arg)}
            self.assertEqual(bound & set(dir(builtins)), set())
            used = {node.id for node in ast.walk(tree) if isinstance(node, ast.Name)}
            self.assertLessEqual(used & set(dir(builtins)), OWN_NAMES)

    def test_methods(self):
        own = {node.name for file, text, tree in self.each() for part in ast.walk(tree)
               if isinstance(part, ast.ClassDef) for node in part.body if isinstance(node, ast.FunctionDef)}
        for file, text, tree in self.each():
            for node in ast.walk(tree):
                if isinstance(node, ast.Call) and isinstance(node.func, ast.Attribute):
                    self.assertIn(node.func.attr, OWN_METHODS | own)


if __name__ == "__main__":
    unittest.main()
