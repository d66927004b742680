"""The package's own files against those rules of the language that can be seen in a file's form."""

import ast
import re
import unittest
from pathlib import Path

PACKAGE = Path(__file__).resolve().parent.parent / "leastpatches"

BANNED_WORDS = [
    "type", "typing", "typing_extensions", "enum", "Enum", "IntEnum", "StrEnum", "Flag", "IntFlag", "Generic",
    "Protocol", "ABC", "ABCMeta", "namedtuple", "NamedTuple", "TypedDict", "TYPE_CHECKING", "abstractmethod",
]
BANNED_PARTS = ["dataclass", "overload", "contextmanager"]
BANNED_NAMES = set(
    "register mro elements open input version_info with_traceback add_note attrgetter breakpoint builtins compile "
    "copyright credits delattr dir eval exec exit gc getattr globals hasattr help id importlib license locals "
    "methodcaller os quit setattr super type vars sys format format_map print chr".split()
)
PYTHONS_OWN = set(
    "len range enumerate zip min max sum abs sorted reversed int str bool list tuple dict set frozenset isinstance "
    "ord repr any all divmod Exception ValueError TypeError KeyError IndexError LookupError ZeroDivisionError "
    "ArithmeticError OverflowError RuntimeError NotImplementedError AttributeError StopIteration".split()
)
WALKED = {"zip", "enumerate", "reversed", "range"}
WALKERS = {"list", "tuple", "dict", "sorted", "sum", "any", "all", "enumerate", "zip", "min", "max"}
NODES = (
    ast.Module, ast.Expr, ast.Constant, ast.ImportFrom, ast.alias, ast.FunctionDef, ast.arguments, ast.arg,
    ast.ClassDef, ast.Assign, ast.AugAssign, ast.If, ast.While, ast.For, ast.Return, ast.Break, ast.Continue,
    ast.Pass, ast.Raise, ast.Try, ast.ExceptHandler, ast.Name, ast.Load, ast.Store, ast.List, ast.Tuple, ast.Dict,
    ast.Set, ast.BinOp, ast.UnaryOp, ast.BoolOp, ast.Compare, ast.IfExp, ast.Call, ast.keyword, ast.Attribute,
    ast.Subscript, ast.Slice, ast.ListComp, ast.comprehension, ast.JoinedStr, ast.FormattedValue, ast.Lambda,
    ast.operator, ast.unaryop, ast.boolop, ast.cmpop,
)
PYTHONS_METHODS = {name for kind in (str, int, list, dict, set, bytes) for name in dir(kind)}


def files():
    return sorted(PACKAGE.glob("*.py"))


class Language(unittest.TestCase):
    def each_tree(self):
        for path in files():
            yield path.name, ast.parse(path.read_text(encoding="ascii"))

    def each_node(self):
        for name, tree in self.each_tree():
            for node in ast.walk(tree):
                yield f"{name}:{getattr(node, 'lineno', 0)}", node

    def test_the_folder_holds_plain_files_alone(self):
        left = [path.name for path in PACKAGE.iterdir() if path not in files() and path.name != "__pycache__"]
        self.assertEqual(left, [])
        for path in files():
            self.assertRegex(path.name, r"^([a-z][a-z0-9_]*|__init__|__main__)\.py$")

    def test_signs_words_and_sizes(self):
        for path in files():
            rows = path.read_text(encoding="ascii").split("\n")
            self.assertLessEqual(len(rows), 399, path.name)
            for number, row in enumerate(rows, 1):
                where = f"{path.name}:{number}"
                self.assertLessEqual(len(row), 120, where)
                self.assertRegex(row, r"^[ -~]*$", where)
                self.assertEqual([word for word in re.findall(r"\w+", row) if word in BANNED_WORDS], [], where)
                self.assertEqual([part for part in BANNED_PARTS if part in row], [], where)

    def test_forms(self):
        for where, node in self.each_node():
            self.assertIsInstance(node, NODES, where)
            if isinstance(node, ast.FunctionDef):
                self.assertLessEqual(node.end_lineno - node.lineno + 1, 40, where)
                self.assertFalse(node.decorator_list or node.args.vararg or node.args.kwarg, where)
            if isinstance(node, ast.Assign):
                self.assertEqual(len(node.targets), 1, where)
            if isinstance(node, (ast.For, ast.While)):
                self.assertEqual(node.orelse, [], where)
            if isinstance(node, ast.ListComp):
                self.assertEqual(len(node.generators), 1, where)
                self.assertLessEqual(len(node.generators[0].ifs), 1, where)
            if isinstance(node, (ast.Div, ast.MatMult)):
                self.fail(where)
            if isinstance(node, ast.Constant):
                self.assertIsInstance(node.value, (int, str, type(None)), where)
            if isinstance(node, ast.Compare) and any(isinstance(one, (ast.Is, ast.IsNot)) for one in node.ops):
                self.assertIsInstance(node.comparators[0], ast.Constant, where)

    def test_tops_of_files(self):
        for name, tree in self.each_tree():
            self.assertTrue(ast.get_docstring(tree), name)
            for node in tree.body[1:]:
                self.assertIsInstance(node, (ast.ImportFrom, ast.FunctionDef, ast.ClassDef, ast.Assign), name)
                if isinstance(node, ast.ImportFrom):
                    self.assertEqual(node.level, 0, name)
                    self.assertTrue(node.module.startswith("leastpatches."), name)

    def test_names(self):
        for where, node in self.each_node():
            found = []
            if isinstance(node, ast.Name):
                found = [node.id]
                if isinstance(node.ctx, ast.Store):
                    self.assertNotIn(node.id, PYTHONS_OWN, where)
            elif isinstance(node, ast.arg):
                found = [node.arg]
                self.assertNotIn(node.arg, PYTHONS_OWN, where)
            elif isinstance(node, ast.Attribute):
                found = [node.attr]
            elif isinstance(node, (ast.FunctionDef, ast.ClassDef)):
                found = [node.name]
            for one in found:
                self.assertNotIn(one, BANNED_NAMES, where)
                self.assertTrue(one == "__init__" or not one.startswith("_"), where)

    def test_no_local_is_called_like_an_import(self):
        for name, tree in self.each_tree():
            drawn = {one.name for node in tree.body if isinstance(node, ast.ImportFrom) for one in node.names}
            bound = {node.id for node in ast.walk(tree) if isinstance(node, ast.Name) and isinstance(node.ctx, ast.Store)}
            bound |= {node.arg for node in ast.walk(tree) if isinstance(node, ast.arg)}
            self.assertEqual(drawn & bound, set(), name)

    def test_methods_and_values(self):
        methods = set()
        values = set()
        for where, node in self.each_node():
            if isinstance(node, ast.ClassDef):
                methods |= {one.name for one in node.body if isinstance(one, ast.FunctionDef)} - {"__init__"}
            if isinstance(node, ast.Attribute) and isinstance(node.ctx, ast.Store):
                values.add(node.attr)
        self.assertEqual(methods & values, set())
        self.assertEqual((methods | values) & PYTHONS_METHODS, set())

    def test_what_is_walked_at_once(self):
        for name, tree in self.each_tree():
            walked = []
            for node in ast.walk(tree):
                if isinstance(node, (ast.For, ast.comprehension)):
                    walked.append(node.iter)
                if isinstance(node, ast.Call) and isinstance(node.func, ast.Name) and node.func.id in WALKERS:
                    walked += node.args[:1]
            for node in ast.walk(tree):
                if isinstance(node, ast.Call) and isinstance(node.func, ast.Name) and node.func.id in WALKED:
                    self.assertTrue(any(node is one for one in walked), f"{name}:{node.lineno}")


if __name__ == "__main__":
    unittest.main()
