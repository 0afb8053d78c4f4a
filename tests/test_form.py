"""The form of the package's own files, as far as it can be read off their trees."""

import ast
import builtins
import re
import unittest
from pathlib import Path

PACKAGE = Path(__file__).resolve().parent.parent / "risingcurves"

STATEMENTS = (
    ast.Assign, ast.AugAssign, ast.If, ast.While, ast.For, ast.Return, ast.Break, ast.Continue, ast.Pass, ast.Raise,
    ast.Try, ast.Expr, ast.FunctionDef, ast.ClassDef, ast.ImportFrom)

EXPRESSIONS = (
    ast.Constant, ast.List, ast.Tuple, ast.Dict, ast.BinOp, ast.UnaryOp, ast.BoolOp, ast.Compare, ast.IfExp, ast.Call,
    ast.Attribute, ast.Subscript, ast.Slice, ast.ListComp, ast.Name, ast.Lambda, ast.JoinedStr, ast.FormattedValue)

OWN_NAMES_OF_PYTHON = set("""
    len range enumerate zip min max sum abs sorted reversed int str bool list tuple dict set isinstance ord repr
    any all divmod Exception ValueError KeyError IndexError LookupError ZeroDivisionError StopIteration""".split())

METHODS = set("""
    append clear copy count endswith extend find get index insert items join keys pop remove replace reverse
    setdefault split startswith strip update values bit_length""".split())

VALUE_NAMES_OUT = set("items keys values pop update append clear extend insert remove reverse sort args format".split())

WORDS_OUT = re.compile(
    r"\b(type|typing|enum|Enum|Flag|Generic|Protocol|ABC|namedtuple|NamedTuple|TypedDict|TYPE_CHECKING)\b"
    r"|dataclass|overload|contextmanager")

NAMES_OUT = set("register mro elements open input id super type vars dir eval exec exit help compile".split())


def files():
    return sorted(PACKAGE.rglob("*.py"))


def trees():
    return [(path.name, ast.parse(path.read_text())) for path in files()]


def nodes(kind):
    return [(name, node) for name, tree in trees() for node in ast.walk(tree) if isinstance(node, kind)]


class Form(unittest.TestCase):
    def test_files(self):
        lying = [path for path in PACKAGE.rglob("*") if "__pycache__" not in path.parts]
        self.assertEqual(sorted(lying), files())
        for path in files():
            self.assertRegex(path.name, r"^(__init__|__main__|[a-z][a-z0-9_]*)\.py$")
            self.assertNotIn(path.stem, dir(builtins))

    def test_size_and_signs(self):
        for path in files():
            text = path.read_text()
            rows = text.split("\n")
            self.assertLessEqual(len(rows) - 1, 400, path)
            self.assertLessEqual(max(len(row) for row in rows), 120, path)
            self.assertRegex(text, r"^[ -~\n]*\Z", path)
            self.assertIsNone(WORDS_OUT.search(text), path)
        for name, node in nodes(ast.FunctionDef):
            self.assertLessEqual(node.end_lineno - node.lineno + 1, 40, (name, node.name))

    def test_statements_and_expressions(self):
        for name, node in nodes(ast.stmt):
            self.assertIsInstance(node, STATEMENTS, (name, node.lineno))
        for name, node in nodes(ast.expr):
            self.assertIsInstance(node, EXPRESSIONS, (name, node.lineno))
        for name, node in nodes((ast.For, ast.While)):
            self.assertEqual(node.orelse, [], (name, node.lineno))
        for name, node in nodes(ast.Assign):
            self.assertEqual(len(node.targets), 1, (name, node.lineno))
        for name, node in nodes(ast.BinOp):
            self.assertNotIsInstance(node.op, (ast.Div, ast.MatMult), (name, node.lineno))
        for name, node in nodes(ast.Constant):
            self.assertIn(type(node.value), (int, str, bool, type(None)), (name, node.lineno))

    def test_functions_and_classes(self):
        for name, node in nodes(ast.FunctionDef):
            given = node.args
            self.assertEqual([node.decorator_list, given.posonlyargs, given.kwonlyargs], [[], [], []], node.name)
            self.assertEqual([given.vararg, given.kwarg, node.returns], [None, None, None], node.name)
        for name, node in nodes(ast.ClassDef):
            self.assertEqual([node.decorator_list, node.keywords], [[], []], node.name)

    def test_imports(self):
        for name, node in nodes(ast.ImportFrom):
            self.assertEqual(node.level, 0, name)
            self.assertRegex(node.module, r"^risingcurves\.", name)
            source = ast.parse((PACKAGE / (node.module.split(".")[1] + ".py")).read_text())
            bound = {part.name for part in source.body if isinstance(part, (ast.FunctionDef, ast.ClassDef))}
            bound |= {part.targets[0].id for part in source.body if isinstance(part, ast.Assign)}
            for alias in node.names:
                self.assertIn(alias.name, bound, (name, node.module))

    def test_names(self):
        for name, tree in trees():
            stored = {node.id for node in ast.walk(tree)
                      if isinstance(node, ast.Name) and isinstance(node.ctx, ast.Store)}
            stored |= {node.arg for node in ast.walk(tree) if isinstance(node, ast.arg)}
            imported = {alias.name for node in ast.walk(tree) if isinstance(node, ast.ImportFrom)
                        for alias in node.names}
            defined = {node.name for node in ast.walk(tree) if isinstance(node, (ast.FunctionDef, ast.ClassDef))}
            classes = {node.name for node in ast.walk(tree) if isinstance(node, ast.ClassDef)}
            used = {node.id for node in ast.walk(tree) if isinstance(node, ast.Name)}
            self.assertEqual(used - stored - imported - defined - OWN_NAMES_OF_PYTHON, set(), name)
            self.assertEqual(stored & (set(dir(builtins)) | imported | classes), set(), name)
            self.assertEqual((used | stored | defined) & NAMES_OUT, set(), name)
            for word in stored | defined - {"__init__"}:
                self.assertRegex(word, r"^[A-Za-z][A-Za-z0-9_]*$", name)

    def test_methods_and_values(self):
        own = {node.attr for name, node in nodes(ast.Attribute) if isinstance(node.ctx, ast.Store)}
        self.assertEqual(own & VALUE_NAMES_OUT, set())
        for kind in (str, int, list, dict, set, bytes):
            self.assertEqual(own & set(dir(kind)) - {"count", "index"}, set(), kind)
        read = {node.attr for name, node in nodes(ast.Attribute)}
        self.assertEqual(read - own - METHODS, set())


if __name__ == "__main__":
    unittest.main()
