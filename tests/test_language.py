"""What of the part of Python that the package keeps to can be seen from its files (L1 to L28)."""

import ast
import builtins
import pathlib
import re
import unittest

import signplant

FOLDER = pathlib.Path(signplant.__file__).parent
FILES = sorted(FOLDER.glob("*.py"))

NODES = {
    "Module", "ImportFrom", "alias", "FunctionDef", "arguments", "arg", "ClassDef", "Assign", "AugAssign", "If",
    "While", "For", "Return", "Break", "Continue", "Pass", "Raise", "Expr", "Constant", "Name", "Load", "Store",
    "List", "Tuple", "Dict", "BinOp", "UnaryOp", "BoolOp", "Compare", "IfExp", "Call", "Attribute", "Subscript",
    "Slice", "ListComp", "comprehension", "JoinedStr", "FormattedValue", "keyword", "Add", "Sub", "Mult", "FloorDiv",
    "Mod", "USub", "Not", "And", "Or", "Eq", "NotEq", "Lt", "LtE", "Gt", "GtE", "In", "NotIn", "Is", "IsNot",
}
BUILT_IN = set(
    "len range enumerate zip min max sum abs sorted reversed int str bool list tuple dict set isinstance any all divmod"
    " NotImplementedError".split())
METHODS = set(
    "append clear copy count endswith extend find get index insert items join keys pop remove replace reverse"
    " setdefault split startswith strip update values".split())
WORDS = re.compile(
    r"\b(type|typing|typing_extensions|enum|Enum|IntEnum|StrEnum|Flag|IntFlag|Generic|Protocol|ABC|ABCMeta|namedtuple"
    r"|NamedTuple|TypedDict|TYPE_CHECKING|abstractmethod)\b|dataclass|overload|contextmanager")
TOP = (ast.ImportFrom, ast.FunctionDef, ast.ClassDef, ast.Assign)


def bound_names(tree):
    """All names that a file binds, parameters too."""
    names = [node.id for node in ast.walk(tree) if isinstance(node, ast.Name) and isinstance(node.ctx, ast.Store)]
    names += [node.arg for node in ast.walk(tree) if isinstance(node, ast.arg)]
    return names + [node.name for node in ast.walk(tree) if isinstance(node, (ast.FunctionDef, ast.ClassDef))]


def top_names(tree):
    """The names that a file's top defines."""
    names = [node.name for node in tree.body if isinstance(node, (ast.FunctionDef, ast.ClassDef))]
    return names + [node.targets[0].id for node in tree.body if isinstance(node, ast.Assign)]


class Language(unittest.TestCase):
    def setUp(self):
        self.texts = {path.stem: path.read_text(encoding="utf-8") for path in FILES}
        self.trees = {name: ast.parse(text) for name, text in self.texts.items()}

    def every_node(self):
        for name, tree in self.trees.items():
            for node in ast.walk(tree):
                yield f"{name}:{getattr(node, 'lineno', 0)}", node

    def test_files(self):
        others = [path.name for path in FOLDER.iterdir() if path not in FILES and path.name != "__pycache__"]
        self.assertEqual(others, [])
        self.assertIn("__init__", self.texts)
        for name in self.texts:
            self.assertRegex(name, r"^(__init__|[a-z][a-z0-9_]*)$")
            self.assertFalse(name != "__init__" and hasattr(builtins, name), name)

    def test_signs_words_and_sizes(self):
        for name, text in self.texts.items():
            self.assertRegex(text, r"\A[ -~\n]*\Z", name)
            self.assertIsNone(WORDS.search(text), name)
            rows = text.split("\n")
            self.assertLessEqual(len(rows), 400, name)
            self.assertLessEqual(max(len(row) for row in rows), 120, name)
        for where, node in self.every_node():
            if isinstance(node, ast.FunctionDef):
                self.assertLessEqual(node.end_lineno - node.lineno + 1, 40, where)

    def test_statements_and_expressions(self):
        for where, node in self.every_node():
            self.assertIn(node.__class__.__name__, NODES, where)
            if isinstance(node, ast.Expr) and node not in [tree.body[0] for tree in self.trees.values()]:
                self.assertIsInstance(node.value, ast.Call, where)
            if isinstance(node, ast.Assign):
                self.assertEqual(len(node.targets), 1, where)
                self.assertNotIsInstance(node.targets[0], ast.Tuple, where)
            if isinstance(node, (ast.For, ast.While)):
                self.assertEqual(node.orelse, [], where)
            if isinstance(node, ast.Constant):
                self.assertIn(type(node.value), (int, str, bool, type(None)), where)
                self.assertNotIn("%", str(node.value), where)
            if isinstance(node, ast.ListComp):
                self.assertEqual(len(node.generators), 1, where)
                self.assertLessEqual(len(node.generators[0].ifs), 1, where)
            if isinstance(node, ast.Compare) and isinstance(node.ops[0], (ast.Is, ast.IsNot)):
                self.assertIn(ast.unparse(node.comparators[0]), ("None", "True", "False"), where)

    def test_top_of_each_file(self):
        for name, tree in self.trees.items():
            self.assertIsNotNone(ast.get_docstring(tree), name)
            for node in tree.body[1:]:
                self.assertIsInstance(node, TOP, f"{name}:{node.lineno}")
            self.assertEqual(len(top_names(tree)), len(set(top_names(tree))), name)
        self.assertEqual(len(self.trees["__init__"].body), 1)

    def test_functions_and_classes(self):
        for where, node in self.every_node():
            if isinstance(node, (ast.FunctionDef, ast.ClassDef)):
                self.assertEqual(node.decorator_list, [], where)
            if isinstance(node, ast.arguments):
                self.assertFalse(node.vararg or node.kwarg or node.kwonlyargs or node.posonlyargs, where)
            if isinstance(node, ast.ClassDef):
                for part in node.body:
                    self.assertIsInstance(part, ast.FunctionDef, where)

    def test_names(self):
        for name, tree in self.trees.items():
            drawn = [part.name for node in tree.body if isinstance(node, ast.ImportFrom) for part in node.names]
            for bound in bound_names(tree):
                self.assertNotIn(bound, drawn, name)
                if bound != "__init__":
                    self.assertRegex(bound, r"^[A-Za-z][A-Za-z0-9_]*$", name)
                    self.assertFalse(hasattr(builtins, bound), (name, bound))
            used = {node.id for node in ast.walk(tree) if isinstance(node, ast.Name)}
            self.assertLessEqual({one for one in used if hasattr(builtins, one)}, BUILT_IN, name)
            self.assertLessEqual(set(drawn), used, name)

    def test_methods(self):
        for where, node in self.every_node():
            if isinstance(node, ast.Call) and isinstance(node.func, ast.Attribute):
                self.assertIn(node.func.attr, METHODS, where)

    def test_imports(self):
        draws = {}
        for name, tree in self.trees.items():
            draws[name] = []
            for node in tree.body:
                if isinstance(node, ast.ImportFrom):
                    package, source = node.module.split(".")
                    self.assertEqual((package, node.level), ("signplant", 0), name)
                    for part in node.names:
                        self.assertIsNone(part.asname, name)
                        self.assertIn(part.name, top_names(self.trees[source]), name)
                    draws[name].append(source)
        while draws:
            ends = [name for name in draws if not set(draws[name]) & set(draws)]
            self.assertNotEqual(ends, [], draws)
            draws = {name: sources for name, sources in draws.items() if name not in ends}


if __name__ == "__main__":
    unittest.main()
