"""The rules of ../shared/LANGUAGE.md that can be read off the package's files one by one."""

import ast
import builtins
import pathlib
import re
import unittest

PACKAGE = pathlib.Path(__file__).resolve().parent.parent / "sidesleft"

ALLOWED_NODES = {
    "Module", "ImportFrom", "alias", "FunctionDef", "arguments", "arg", "ClassDef", "Assign", "AugAssign", "If",
    "While", "For", "Return", "Break", "Continue", "Pass", "Raise", "Try", "ExceptHandler", "Expr", "Constant",
    "List", "Tuple", "Dict", "Set", "BinOp", "UnaryOp", "BoolOp", "Compare", "IfExp", "Call", "Attribute",
    "Subscript", "Slice", "ListComp", "comprehension", "JoinedStr", "FormattedValue", "Lambda", "Name", "keyword",
    "Load", "Store", "Add", "Sub", "Mult", "FloorDiv", "Mod", "Pow", "BitAnd", "BitOr", "BitXor", "Invert",
    "LShift", "RShift", "USub", "UAdd", "Not", "And", "Or", "Eq", "NotEq", "Lt", "LtE", "Gt", "GtE", "In", "NotIn",
    "Is", "IsNot",
}

ALLOWED_BUILTINS = set(
    "len range enumerate zip min max sum abs sorted reversed int str bool list tuple dict set frozenset isinstance "
    "ord repr any all divmod Exception ValueError TypeError KeyError IndexError LookupError ZeroDivisionError "
    "ArithmeticError OverflowError RuntimeError NotImplementedError AttributeError StopIteration".split())

METHODS = set(
    "append clear copy count endswith extend find get index insert isalnum isalpha isdigit islower isspace isupper "
    "items join keys ljust lower lstrip partition pop remove replace reverse rfind rjust rpartition rsplit rstrip "
    "setdefault split splitlines startswith strip update upper values zfill bit_length".split())

BARRED_WORDS = re.compile(
    r"\b(type|typing|typing_extensions|enum|Enum|IntEnum|StrEnum|Flag|IntFlag|Generic|Protocol|ABC|ABCMeta|"
    r"namedtuple|NamedTuple|TypedDict|TYPE_CHECKING|abstractmethod)\b|dataclass|overload|contextmanager")

BARRED_NAMES = set("register mro elements open input version_info with_traceback add_note".split())


def files():
    return [path for path in sorted(PACKAGE.rglob("*")) if "__pycache__" not in path.parts]


def bound_names(tree):
    for node in ast.walk(tree):
        if isinstance(node, ast.Name) and isinstance(node.ctx, ast.Store):
            yield node.id
        elif isinstance(node, (ast.FunctionDef, ast.ClassDef)):
            yield node.name
        elif isinstance(node, ast.arg):
            yield node.arg


class Language(unittest.TestCase):
    def setUp(self):
        self.sources = {path.name: path.read_text(encoding="utf-8") for path in files() if path.is_file()}
        self.trees = {name: ast.parse(source) for name, source in self.sources.items()}

    def test_files(self):
        self.assertIn("__init__.py", self.sources)
        self.assertIn("desk.py", self.sources)
        for path in files():
            self.assertTrue(path.is_file(), path)
            self.assertRegex(path.name, r"\A([a-z][a-z0-9_]*|__init__|__main__)\.py\Z")
            self.assertFalse(path.stem.startswith("test"), path)
            self.assertFalse(path.stem.isalnum() and hasattr(builtins, path.stem), path)

    def test_signs_and_sizes(self):
        for name, source in self.sources.items():
            self.assertRegex(source, r"\A[ -~\n]*\Z", name)
            self.assertIsNone(BARRED_WORDS.search(source), name)
            lines = source.split("\n")
            self.assertLessEqual(len(lines), 400, name)
            self.assertLessEqual(max(len(line) for line in lines), 120, name)

    def test_forms(self):
        for name, tree in self.trees.items():
            for node in ast.walk(tree):
                self.assertIn(type(node).__name__, ALLOWED_NODES, (name, node))
                if isinstance(node, ast.FunctionDef):
                    self.assertLessEqual(node.end_lineno - node.lineno + 1, 40, node.name)
                    self.assertFalse(node.decorator_list or node.args.vararg or node.args.kwarg
                                     or node.args.kwonlyargs or node.args.posonlyargs, node.name)
                elif isinstance(node, (ast.For, ast.While)):
                    self.assertFalse(node.orelse, name)
                elif isinstance(node, ast.ListComp):
                    self.assertEqual(len(node.generators), 1, name)
                    self.assertLessEqual(len(node.generators[0].ifs), 1, name)
                elif isinstance(node, ast.Assign):
                    self.assertEqual(len(node.targets), 1, name)
                elif isinstance(node, ast.Constant):
                    self.assertIn(type(node.value), (int, str, bool, type(None)), name)
                    self.assertNotIn("%", str(node.value), name)

    def test_imports(self):
        for name, tree in self.trees.items():
            body = tree.body[1:]  # behind the docstring
            for at, node in enumerate(body):
                if isinstance(node, ast.ImportFrom):
                    self.assertEqual(node.level, 0, name)
                    self.assertTrue(node.module.startswith("sidesleft."), name)
                    self.assertTrue(all(isinstance(other, ast.ImportFrom) for other in body[:at]), name)
                    home = self.trees[node.module.split(".")[1] + ".py"]
                    here = [item.name for item in home.body if isinstance(item, (ast.FunctionDef, ast.ClassDef))]
                    here += [item.targets[0].id for item in home.body if isinstance(item, ast.Assign)]
                    for alias in node.names:
                        self.assertIn(alias.name, here, name)
        self.assertEqual(len(self.trees["__init__.py"].body), 1)

    def test_top_of_a_module(self):
        for name, tree in self.trees.items():
            self.assertTrue(ast.get_docstring(tree), name)
            tops = []
            for node in tree.body[1:]:
                self.assertIsInstance(node, (ast.ImportFrom, ast.FunctionDef, ast.ClassDef, ast.Assign), name)
                if isinstance(node, ast.ImportFrom):
                    tops += [alias.asname or alias.name for alias in node.names]
                else:
                    tops.append(node.targets[0].id if isinstance(node, ast.Assign) else node.name)
            self.assertEqual(len(tops), len(set(tops)), name)

    def test_names(self):
        for name, tree in self.trees.items():
            for bound in bound_names(tree):
                self.assertRegex(bound, r"\A([A-Za-z][A-Za-z0-9_]*|__(init|eq|repr|str|len)__)\Z", name)
                self.assertFalse(hasattr(builtins, bound) or bound in BARRED_NAMES, (name, bound))
            for node in ast.walk(tree):
                if isinstance(node, ast.Name) and hasattr(builtins, node.id):
                    self.assertIn(node.id, ALLOWED_BUILTINS, name)
                elif isinstance(node, ast.Attribute):
                    self.assertNotIn(node.attr, BARRED_NAMES | {"format", "format_map"}, name)
                    self.assertIn(node.attr, METHODS, name)  # no class of its own stands in the package


if __name__ == "__main__":
    unittest.main()
