"""The package keeps to the small part of Python that it is written in, as far as a tree of it shows."""

import ast
import re
import unittest
from pathlib import Path

PACKAGE = Path(__file__).resolve().parent.parent / "pavedloads"
FILES = sorted(PACKAGE.rglob("*.py"))

NODES = (
    ast.Module, ast.ImportFrom, ast.alias, ast.FunctionDef, ast.arguments, ast.arg, ast.ClassDef,
    ast.Assign, ast.AugAssign, ast.If, ast.While, ast.For, ast.Return, ast.Break, ast.Continue, ast.Pass,
    ast.Raise, ast.Expr, ast.Name, ast.Constant, ast.List, ast.Tuple, ast.Dict, ast.BinOp, ast.UnaryOp,
    ast.BoolOp, ast.Compare, ast.IfExp, ast.Call, ast.Attribute, ast.Subscript, ast.Slice, ast.ListComp,
    ast.comprehension, ast.JoinedStr, ast.FormattedValue, ast.keyword, ast.expr_context, ast.boolop,
    ast.operator, ast.unaryop, ast.cmpop,
)
BUILTINS = {
    "len", "range", "enumerate", "zip", "min", "max", "sum", "abs", "sorted", "reversed", "int", "str", "bool",
    "list", "tuple", "dict", "isinstance", "any", "all", "divmod", "Exception", "ValueError", "KeyError",
}
METHODS = {
    "append", "clear", "copy", "count", "extend", "get", "index", "insert", "items", "keys", "pop", "remove",
    "reverse", "setdefault", "update", "values",
}
WORDS = (
    "type", "typing", "typing_extensions", "enum", "Enum", "IntEnum", "StrEnum", "Flag", "IntFlag", "Generic",
    "Protocol", "ABC", "ABCMeta", "namedtuple", "NamedTuple", "TypedDict", "TYPE_CHECKING", "abstractmethod",
)


def walk(kinds):
    for file in FILES:
        for node in ast.walk(ast.parse(file.read_text(encoding="utf-8"))):
            if isinstance(node, kinds):
                yield file.name, node


class Language(unittest.TestCase):
    def test_files(self):
        self.assertIn(PACKAGE / "loads.py", FILES)
        for path in PACKAGE.rglob("*"):
            if "__pycache__" not in path.parts:
                self.assertRegex(path.name, r"\A(__init__|[a-z][a-z0-9_]*)\.py\Z")

    def test_signs_and_sizes(self):
        for file in FILES:
            text = file.read_text(encoding="utf-8")
            self.assertRegex(text, r"\A[ -~\n]*\Z", file)
            lines = text.split("\n")
            self.assertLessEqual(len(lines), 400, file)
            self.assertLessEqual(max(len(line) for line in lines), 120, file)

    def test_words(self):
        for file in FILES:
            text = file.read_text(encoding="utf-8")
            for word in WORDS:
                self.assertIsNone(re.search(rf"\b{word}\b", text), (file, word))
            self.assertIsNone(re.search("dataclass|overload|contextmanager", text), file)

    def test_statements_and_expressions(self):
        for name, node in walk(ast.AST):
            self.assertIsInstance(node, NODES, (name, getattr(node, "lineno", 0)))
            self.assertNotIsInstance(node, (ast.Div, ast.MatMult), name)

    def test_functions(self):
        for name, node in walk(ast.FunctionDef):
            self.assertLessEqual(node.end_lineno - node.lineno + 1, 40, (name, node.name))
            self.assertEqual(node.decorator_list, [])
            told = node.args
            self.assertEqual((told.vararg, told.kwarg, told.kwonlyargs, told.posonlyargs), (None, None, [], []))

    def test_loops_and_assignments(self):
        for name, node in walk((ast.For, ast.While)):
            self.assertEqual(node.orelse, [], (name, node.lineno))
        for name, node in walk(ast.Assign):
            self.assertEqual(len(node.targets), 1, (name, node.lineno))

    def test_values(self):
        for name, node in walk(ast.Constant):
            self.assertIn(node.value.__class__, (int, str, bool, None.__class__), (name, node.lineno))

    def test_imports(self):
        for name, node in walk(ast.ImportFrom):
            self.assertEqual(node.level, 0, name)
            self.assertRegex(node.module, r"\Apavedloads\.[a-z]+\Z", name)

    def test_names(self):
        own = set()
        for name, node in walk((ast.FunctionDef, ast.ClassDef)):
            own.add(node.name)
        for name, node in walk((ast.arg,)):
            own.add(node.arg)
        for name, node in walk(ast.Name):
            if isinstance(node.ctx, ast.Store):
                own.add(node.id)
        self.assertEqual(own & BUILTINS, set())
        for name in own - {"__init__"}:
            self.assertRegex(name, r"\A[A-Za-z][A-Za-z0-9_]*\Z")
        for name, node in walk(ast.Name):
            self.assertIn(node.id, own | BUILTINS, (name, node.lineno))

    def test_parameters_and_locals_are_not_called_like_imports_classes_or_functions(self):
        for file in FILES:
            tree = ast.parse(file.read_text(encoding="utf-8"))
            top = [node for node in tree.body if isinstance(node, (ast.FunctionDef, ast.ClassDef))]
            names = {node.name for node in top}
            names |= {one.name for node in tree.body if isinstance(node, ast.ImportFrom) for one in node.names}
            for node in ast.walk(tree):
                if isinstance(node, ast.arg):
                    self.assertNotIn(node.arg, names, (file.name, node.lineno))
                if isinstance(node, ast.Name) and isinstance(node.ctx, ast.Store):
                    self.assertNotIn(node.id, names, (file.name, node.lineno))

    def test_no_two_files_draw_from_one_another(self):
        drawn = {}
        for name, node in walk(ast.ImportFrom):
            drawn.setdefault(name, set()).add(node.module.split(".")[-1] + ".py")
        done = set()
        while True:
            free = {file.name for file in FILES if drawn.get(file.name, set()) <= done} - done
            if not free:
                break
            done |= free
        self.assertEqual(done, {file.name for file in FILES})

    def test_methods_of_pythons_own_values(self):
        own = {"begun", "fill", "lay", "keep", "fleet", "ways"}
        for name, node in walk(ast.Attribute):
            self.assertIn(node.attr, own | METHODS, (name, node.lineno))


if __name__ == "__main__":
    unittest.main()
