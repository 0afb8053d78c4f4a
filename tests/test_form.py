"""The form of the package's own files, as far as it can be read off their trees."""

import ast
import builtins
import re
import unittest
from pathlib import Path

PACKAGE = Path(__file__).resolve().parent.parent / "risingcurves"

STATEMENTS = (
    ast.Assign, ast.AugAssign, ast.If, ast.While, ast.For, ast.Return, ast.Break, ast.Continue, ast.Pass, ast.Raise,
    ast.Try, ast.Expr, ast.FunctionDef, ast.ClassDef, ast.ImportFrom)

EXPRESSIONS = (
    ast.Constant, ast.List, ast.Tuple, ast.Dict, ast.BinOp, ast.UnaryOp, ast.BoolOp, ast.Compare, ast.IfExp, ast.Call,
    ast.Attribute, ast.Subscript, ast.Slice, ast.ListComp, ast.Name, ast.Lambda, ast.JoinedStr, ast.FormattedValue)

OWN_NAMES_OF_PYTHON = set("""
    len range enumerate zip min max sum abs sorted reversed int str bool list tuple dict set isinstance ord repr
    any all divmod Exception ValueError KeyError IndexError LookupError ZeroDivisionError StopIteration""".split())

METHODS = set("""
    append clear copy count endswith extend find get index insert items join keys pop remove replace reverse
    setdefault split startswith strip update values bit_length""".split())

VALUE_NAMES_OUT = set("items keys values pop update append clear extend insert remove reverse sort args format".split())

WORDS_OUT = re.compile(
    r"\b(type|typing|enum|Enum|Flag|Generic|Protocol|ABC|namedtuple|NamedTuple|TypedDict|TYPE_CHECKING)\b"
    r"|dataclass|overload|contextmanager")

NAMES_OUT = set("register mro elements open input id super type vars dir eval exec exit help compile".split())


def files():
    return sorted(PACKAGE.rglob("*.py"))


def trees():
    return [(path.name, ast.parse(path.read_text())) for path in files()]


def parents(tree):
    """For each node the one that it stands in."""
    return {child: node for node in ast.walk(tree) for child in ast.iter_child_nodes(node)}


def called(node):
    """The name that is called, if the node is a call of a plain name."""
    return node.func.id if isinstance(node, ast.Call) and isinstance(node.func, ast.Name) else None


def nodes(kind):
    return [(name, node) for name, tree in trees() for node in ast.walk(tree) if isinstance(node, kind)]


class Form(unittest.TestCase):
    def test_files(self):
        lying = [path for path in PACKAGE.rglob("*") if "__pycache__" not in path.parts]
        self.assertEqual(sorted(lying), files())
        for path in files():
            self.assertRegex(path.name, r"^(__init__|__main__|[a-z][a-z0-9_]*)\.py$")
            self.assertNotIn(path.stem, dir(builtins))

    def test_size_and_signs(self):
        for path in files():
            text = path.read_text()
            rows = text.split("\n")
            self.assertLessEqual(len(rows) - 1, 400, path)
            self.assertLessEqual(max(len(row) for row in rows), 120, path)
            self.assertRegex(text, r"^[ -~\n]*\Z", path)
            self.assertIsNone(WORDS_OUT.search(text), path)
        for name, node in nodes(ast.FunctionDef):
            self.assertLessEqual(node.end_lineno - node.lineno + 1, 40, (name, node.name))

    def test_statements_and_expressions(self):
        for name, node in nodes(ast.stmt):
            self.assertIsInstance(node, STATEMENTS, (name, node.lineno))
        for name, node in nodes(ast.expr):
            self.assertIsInstance(node, EXPRESSIONS, (name, node.lineno))
        for name, node in nodes((ast.For, ast.While)):
            self.assertEqual(node.orelse, [], (name, node.lineno))
        for name, node in nodes(ast.Assign):
            self.assertEqual(len(node.targets), 1, (name, node.lineno))
        for name, node in nodes(ast.BinOp):
            self.assertNotIsInstance(node.op, (ast.Div, ast.MatMult), (name, node.lineno))
        for name, node in nodes(ast.Constant):
            self.assertIn(type(node.value), (int, str, bool, type(None)), (name, node.lineno))

    def test_functions_and_classes(self):
        for name, node in nodes(ast.FunctionDef):
            given = node.args
            self.assertEqual([node.decorator_list, given.posonlyargs, given.kwonlyargs], [[], [], []], node.name)
            self.assertEqual([given.vararg, given.kwarg, node.returns], [None, None, None], node.name)
        for name, node in nodes(ast.ClassDef):
            self.assertEqual([node.decorator_list, node.keywords], [[], []], node.name)

    def test_imports(self):
        for name, node in nodes(ast.ImportFrom):
            self.assertEqual(node.level, 0, name)
            self.assertRegex(node.module, r"^risingcurves\.", name)
            source = ast.parse((PACKAGE / (node.module.split(".")[1] + ".py")).read_text())
            bound = {part.name for part in source.body if isinstance(part, (ast.FunctionDef, ast.ClassDef))}
            bound |= {part.targets[0].id for part in source.body if isinstance(part, ast.Assign)}
            for alias in node.names:
                self.assertIn(alias.name, bound, (name, node.module))

    def test_names(self):
        for name, tree in trees():
            stored = {node.id for node in ast.walk(tree)
                      if isinstance(node, ast.Name) and isinstance(node.ctx, ast.Store)}
            stored |= {node.arg for node in ast.walk(tree) if isinstance(node, ast.arg)}
            imported = {alias.name for node in ast.walk(tree) if isinstance(node, ast.ImportFrom)
                        for alias in node.names}
            defined = {node.name for node in ast.walk(tree) if isinstance(node, (ast.FunctionDef, ast.ClassDef))}
            classes = {node.name for node in ast.walk(tree) if isinstance(node, ast.ClassDef)}
            used = {node.id for node in ast.walk(tree) if isinstance(node, ast.Name)}
            self.assertEqual(used - stored - imported - defined - OWN_NAMES_OF_PYTHON, set(), name)
            self.assertEqual(stored & (set(dir(builtins)) | imported | classes), set(), name)
            self.assertEqual((used | stored | defined) & NAMES_OUT, set(), name)
            for word in stored | defined - {"__init__"}:
                self.assertRegex(word, r"^[A-Za-z][A-Za-z0-9_]*$", name)

    def test_methods_and_values(self):
        own = {node.attr for name, node in nodes(ast.Attribute) if isinstance(node.ctx, ast.Store)}
        self.assertEqual(own & VALUE_NAMES_OUT, set())
        for kind in (str, int, list, dict, set, bytes):
            self.assertEqual(own & set(dir(kind)) - {"count", "index"}, set(), kind)
        read = {node.attr for name, node in nodes(ast.Attribute)}
        self.assertEqual(read - own - METHODS, set())

    def test_methods_are_called_where_they_stand(self):
        own = {node.attr for name, node in nodes(ast.Attribute) if isinstance(node.ctx, ast.Store)}
        for name, tree in trees():
            above = parents(tree)
            for node in ast.walk(tree):
                if isinstance(node, ast.Attribute) and node.attr not in own:
                    self.assertIsInstance(above[node], ast.Call, (name, node.lineno))
                    self.assertIs(above[node].func, node, (name, node.lineno))
        methods = {part.name for name, node in nodes(ast.ClassDef) for part in node.body
                   if isinstance(part, ast.FunctionDef)}
        self.assertEqual(methods & own, set())

    def test_the_top_of_a_file(self):
        for name, tree in trees():
            bound = []
            for place, part in enumerate(tree.body):
                self.assertIsInstance(part, (ast.Expr, ast.ImportFrom, ast.FunctionDef, ast.ClassDef, ast.Assign), name)
                if isinstance(part, ast.Expr):
                    self.assertEqual([place, type(part.value)], [0, ast.Constant], name)
                elif isinstance(part, ast.ImportFrom):
                    bound += [alias.name for alias in part.names]
                elif isinstance(part, ast.Assign):
                    self.check_plain(part.value, bound, tree, name)
                    bound.append(part.targets[0].id)
                else:
                    bound.append(part.name)
            self.assertEqual(len(bound), len(set(bound)), name)

    def check_plain(self, value, bound, tree, name):
        """A plain value; functions in it are defined above it in the same file; no list or dict within another."""
        defined = {part.name for part in tree.body if isinstance(part, ast.FunctionDef)}
        for node in ast.walk(value):
            if isinstance(node, ast.Name):
                self.assertIn(node.id, set(bound) & defined, name)
            elif isinstance(node, ast.expr):
                self.assertIsInstance(node, (ast.Constant, ast.Tuple, ast.List, ast.Dict, ast.UnaryOp), name)
            if node is not value:
                self.assertNotIsInstance(node, (ast.List, ast.Dict), name)

    def test_lists_and_dicts_of_the_top_are_only_read(self):
        for name, tree in trees():
            above = parents(tree)
            kept = {part.targets[0].id for part in tree.body
                    if isinstance(part, ast.Assign) and isinstance(part.value, (ast.List, ast.Dict))}
            for node in ast.walk(tree):
                if isinstance(node, ast.Name) and node.id in kept and isinstance(node.ctx, ast.Load):
                    self.assertIsInstance(above[node], ast.Subscript, (name, node.lineno))
                    self.assertIsInstance(above[node].ctx, ast.Load, (name, node.lineno))

    def test_no_two_files_draw_from_one_another(self):
        drawn = {}
        for name, tree in trees():
            drawn[name] = {node.module.split(".")[1] + ".py" for node in ast.walk(tree)
                           if isinstance(node, ast.ImportFrom)}
        while drawn:
            free = [name for name in drawn if not drawn[name] & set(drawn)]
            self.assertNotEqual(free, [], sorted(drawn))
            for name in free:
                drawn.pop(name)

    def test_all_that_is_imported_or_defined_is_used(self):
        used = {node.id for name, node in nodes(ast.Name)}
        for name, tree in trees():
            here = {node.id for node in ast.walk(tree) if isinstance(node, ast.Name)}
            for node in ast.walk(tree):
                if isinstance(node, ast.ImportFrom):
                    self.assertEqual([alias.name for alias in node.names if alias.name not in here], [], name)
                    self.assertEqual([alias.asname for alias in node.names if alias.asname], [], name)
            for part in tree.body:
                if isinstance(part, (ast.FunctionDef, ast.ClassDef)) and part.name != "answers":
                    self.assertIn(part.name, used, name)

    def test_is_stands_beside_none_true_and_false(self):
        for name, node in nodes(ast.Compare):
            for operator, right in zip(node.ops, node.comparators):
                if isinstance(operator, (ast.Is, ast.IsNot)):
                    self.assertIsInstance(right, ast.Constant, (name, node.lineno))
                    self.assertIn(right.value, (None, True, False), (name, node.lineno))

    def test_what_is_walked_at_once_and_sets(self):
        takers = ("list", "tuple", "dict", "sorted", "sum", "any", "all", "enumerate", "zip")
        for name, tree in trees():
            above = parents(tree)
            for node in ast.walk(tree):
                holder = above.get(node)
                if called(node) in ("zip", "enumerate", "reversed", "range"):
                    walked = isinstance(holder, (ast.For, ast.comprehension)) and holder.iter is node
                    self.assertTrue(walked or called(holder) in takers, (name, node.lineno))
                if called(node) in ("set", "frozenset"):
                    self.assertTrue(isinstance(holder, ast.Compare) or called(holder) in ("sorted", "len"), name)

    def test_classes_are_called_or_stand_under(self):
        classes = {node.name for name, node in nodes(ast.ClassDef)}
        for name, tree in trees():
            above = parents(tree)
            for node in ast.walk(tree):
                if isinstance(node, ast.Name) and node.id in classes:
                    self.assertEqual(called(above[node]), node.id, (name, node.lineno))

    def test_comprehensions_powers_and_texts(self):
        for name, node in nodes(ast.ListComp):
            self.assertEqual(len(node.generators), 1, (name, node.lineno))
            self.assertLessEqual(len(node.generators[0].ifs), 1, (name, node.lineno))
        for name, node in nodes(ast.BinOp):
            if isinstance(node.op, ast.Pow):
                self.assertIsInstance(node.right, ast.Constant, (name, node.lineno))
                self.assertIn(node.right.value, range(65), (name, node.lineno))
        for name, node in nodes(ast.Constant):
            if isinstance(node.value, str):
                self.assertNotIn("%", node.value, (name, node.lineno))
        for name, node in nodes(ast.Call):
            keywords = {keyword.arg for keyword in node.keywords}
            self.assertLessEqual(keywords, {"key", "default", "reverse", "start", "strict"}, (name, node.lineno))


if __name__ == "__main__":
    unittest.main()
