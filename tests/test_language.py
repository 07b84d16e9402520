"""Rules of the language subset that a look at the files can see; it doesn't see all of them."""

import ast
import builtins
import pathlib
import re
import unittest

FOLDER = pathlib.Path(__file__).resolve().parent.parent / "stintpurse"
FILES = sorted(FOLDER.glob("*.py"))
CALLED = {
    "len", "range", "enumerate", "zip", "min", "max", "sum", "abs", "sorted", "reversed", "int", "str", "bool",
    "list", "tuple", "dict", "set", "isinstance", "ord", "repr", "any", "all", "divmod", "ValueError", "KeyError",
    "super", "property", "staticmethod", "classmethod", "next", "iter", "object",
}
BARRED = re.compile(
    r"\b(type|typing|typing_extensions|enum|Enum|IntEnum|StrEnum|Flag|IntFlag|Generic|Protocol|ABC|ABCMeta"
    r"|namedtuple|NamedTuple|TypedDict|TYPE_CHECKING|abstractmethod)\b|dataclass|overload|contextmanager"
)
NODES = (
    ast.Module, ast.Expr, ast.Constant, ast.ImportFrom, ast.alias, ast.FunctionDef, ast.arguments, ast.arg,
    ast.ClassDef, ast.Assign, ast.AugAssign, ast.If, ast.While, ast.For, ast.Return, ast.Break, ast.Continue,
    ast.Pass, ast.Raise, ast.Try, ast.ExceptHandler, ast.Name, ast.Attribute, ast.Subscript, ast.Slice, ast.Call,
    ast.keyword, ast.Tuple, ast.List, ast.Dict, ast.ListComp, ast.DictComp, ast.comprehension, ast.BinOp, ast.UnaryOp,
    ast.BoolOp, ast.Compare, ast.IfExp, ast.JoinedStr, ast.FormattedValue, ast.Lambda, ast.Starred,
    ast.operator, ast.unaryop, ast.boolop, ast.cmpop, ast.expr_context,
)


def bound_names(node):
    """The names that a node gives a meaning to."""
    if isinstance(node, (ast.FunctionDef, ast.ClassDef)):
        return [node.name]
    if isinstance(node, ast.arg):
        return [node.arg]
    if isinstance(node, ast.Name) and isinstance(node.ctx, ast.Store):
        return [node.id]
    if isinstance(node, ast.alias):
        return [node.asname or node.name]
    return []


class Language(unittest.TestCase):
    def setUp(self):
        self.trees = {path.name: ast.parse(path.read_text("ascii")) for path in FILES}

    def nodes(self):
        for name, tree in self.trees.items():
            for node in ast.walk(tree):
                yield name, node

    def test_only_files_of_python_with_plain_names(self):
        self.assertIn("__init__.py", self.trees)
        for path in FOLDER.iterdir():
            if path.name != "__pycache__":
                self.assertRegex(path.name, r"\A[a-z0-9_]+\.py\Z")

    def test_sizes_and_signs(self):
        for path in FILES:
            text = path.read_text("ascii")
            self.assertRegex(text, r"\A[ -~\n]*\Z")
            self.assertLessEqual(len(text.splitlines()), 399, path)
            self.assertLessEqual(max(len(line) for line in text.splitlines()), 120, path)
            self.assertIsNone(BARRED.search(text), path)
        for name, node in self.nodes():
            if isinstance(node, ast.FunctionDef):
                self.assertLessEqual(node.end_lineno - node.lineno + 1, 40, (name, node.name))

    def test_plain_nodes_only(self):
        for name, node in self.nodes():
            self.assertIsInstance(node, NODES, (name, getattr(node, "lineno", 0)))
            self.assertNotIsInstance(node, (ast.Div, ast.MatMult), name)
            if isinstance(node, ast.Constant):
                self.assertNotIsInstance(node.value, float)
                self.assertNotIn("%", str(node.value))

    def test_is_only_beside_none_and_truths(self):
        for name, node in self.nodes():
            if isinstance(node, ast.Compare) and any(isinstance(sign, (ast.Is, ast.IsNot)) for sign in node.ops):
                self.assertIn(repr(getattr(node.comparators[0], "value", 0)), ("None", "True", "False"), name)

    def test_imports_name_the_file_that_defines(self):
        for name, node in self.nodes():
            if isinstance(node, ast.ImportFrom):
                self.assertEqual(node.level, 0, name)
                package, file = node.module.split(".")
                self.assertEqual(package, "stintpurse", name)
                defined = [bound for top in self.trees[file + ".py"].body for bound in self.made(top)]
                for alias in node.names:
                    self.assertIn(alias.name, defined, name)

    def made(self, top):
        if isinstance(top, ast.Assign):
            return [target.id for target in top.targets]
        return bound_names(top)

    def test_names_are_plain_and_no_builtins(self):
        for name, node in self.nodes():
            for bound in bound_names(node):
                if bound.startswith("__") and isinstance(node, ast.FunctionDef):
                    continue
                self.assertNotEqual(bound[0], "_", (name, bound))
                self.assertFalse(hasattr(builtins, bound), (name, bound))

    def test_only_told_builtins_are_used(self):
        for name, node in self.nodes():
            if isinstance(node, ast.Name) and isinstance(node.ctx, ast.Load) and hasattr(builtins, node.id):
                self.assertIn(node.id, CALLED, (name, node.lineno))

    def test_no_local_has_the_name_of_an_import_or_a_class(self):
        for name, tree in self.trees.items():
            taken = [
                bound for top in tree.body if isinstance(top, (ast.ImportFrom, ast.ClassDef))
                for bound in ([top.name] if isinstance(top, ast.ClassDef) else [alias.name for alias in top.names])
            ]
            inner = [
                bound for top in tree.body if isinstance(top, (ast.FunctionDef, ast.ClassDef))
                for node in ast.walk(top) if node is not top for bound in bound_names(node)
            ]
            self.assertEqual(sorted(set(taken) & set(inner)), [], name)
            self.assertEqual(len(taken), len(set(taken)), name)

    def test_no_name_is_a_method_and_an_attribute(self):
        methods = {
            node.name for name, made in self.nodes() if isinstance(made, ast.ClassDef)
            for node in made.body if isinstance(node, ast.FunctionDef)
        }
        attributes = {
            node.attr for name, node in self.nodes() if isinstance(node, ast.Attribute) and isinstance(node.ctx, ast.Store)
        }
        self.assertEqual(sorted(methods & attributes), [])

    def test_no_generator_where_a_list_is_wanted(self):
        for name, node in self.nodes():
            self.assertNotIsInstance(node, ast.GeneratorExp, (name, getattr(node, "lineno", 0)))

    def test_no_two_files_import_from_each_other(self):
        needs = {
            name[:-3]: {node.module.split(".")[1] for node in tree.body if isinstance(node, ast.ImportFrom)}
            for name, tree in self.trees.items()
        }
        while needs:
            free = [name for name, wanted in needs.items() if not wanted & set(needs)]
            self.assertTrue(free, needs)
            for name in free:
                del needs[name]


if __name__ == "__main__":
    unittest.main()
