"""That the package keeps to the part of Python that LANGUAGE.md allows, as far as a walk over its files shows."""

import ast
import builtins
import re
import unittest
from pathlib import Path

PACKAGE = Path(__file__).resolve().parent.parent / "stripcut"

INTERFACE = {
    "slices": ["f"], "halved": ["s"], "shear": ["g", "k"], "stairs": ["q"], "strip": ["w", "f"], "behind": ["c", "d"],
    "back": ["c"], "goes": ["c", "z"],
}

STATEMENTS = (
    ast.Assign, ast.AugAssign, ast.If, ast.While, ast.For, ast.Return, ast.Break, ast.Continue, ast.Pass,
    ast.Raise, ast.Try, ast.Expr, ast.FunctionDef, ast.ClassDef, ast.ImportFrom,
)
EXPRESSIONS = (
    ast.Constant, ast.Name, ast.List, ast.Tuple, ast.Dict, ast.Call, ast.Attribute, ast.Subscript, ast.Slice,
    ast.BinOp, ast.UnaryOp, ast.BoolOp, ast.Compare, ast.IfExp, ast.ListComp, ast.Lambda, ast.JoinedStr,
    ast.FormattedValue,
)
BUILT_IN = set(
    "len range enumerate zip min max sum abs sorted reversed int str bool list tuple dict set frozenset isinstance "
    "ord repr any all divmod Exception ValueError TypeError KeyError IndexError LookupError ZeroDivisionError "
    "ArithmeticError OverflowError RuntimeError NotImplementedError StopIteration True False None".split()
)
METHODS = set(
    "append clear copy count endswith extend find get index insert isalnum isalpha isdigit islower isspace isupper "
    "items join keys ljust lower lstrip partition pop remove replace reverse rfind rjust rpartition rsplit rstrip "
    "setdefault split splitlines startswith strip update upper values zfill bit_length".split()
)
WORDS = re.compile(
    r"\b(type|typing|typing_extensions|enum|Enum|IntEnum|StrEnum|Flag|IntFlag|Generic|Protocol|ABC|ABCMeta|"
    r"namedtuple|NamedTuple|TypedDict|TYPE_CHECKING|abstractmethod)\b|dataclass|overload|contextmanager"
)
NAMES_OUT = set(
    "register mro elements open input version_info with_traceback add_note attrgetter breakpoint builtins compile "
    "copyright credits delattr dir eval exec exit gc getattr globals hasattr help id importlib license locals "
    "methodcaller os quit setattr super type vars sys chr".split()
)


class Language(unittest.TestCase):
    def setUp(self):
        self.files = sorted(path for path in PACKAGE.rglob("*") if "__pycache__" not in path.parts)
        self.trees = {path: ast.parse(path.read_text("utf-8")) for path in self.files}

    def nodes(self):
        for path, tree in self.trees.items():
            for node in ast.walk(tree):
                yield f"{path.name}:{getattr(node, 'lineno', 0)}", node

    def test_files(self):
        self.assertIn(PACKAGE / "__init__.py", self.files)
        for path in self.files:
            self.assertRegex(path.name, r"^([a-z][a-z0-9_]*|__init__)\.py$")
            self.assertFalse(path.stem != "__init__" and hasattr(builtins, path.stem), path.name)

    def test_signs_and_sizes(self):
        for path in self.files:
            text = path.read_text("utf-8")
            self.assertRegex(text, r"\A[ -~\n]*\Z", path.name)
            self.assertIsNone(WORDS.search(text), path.name)
            rows = text.split("\n")
            self.assertLessEqual(len(rows), 399, path.name)
            self.assertLessEqual(max(len(row) for row in rows), 120, path.name)
        for where, node in self.nodes():
            if isinstance(node, ast.FunctionDef):
                self.assertLessEqual(node.end_lineno - node.lineno + 1, 40, where)

    def test_statements_and_expressions(self):
        for where, node in self.nodes():
            if isinstance(node, ast.stmt):
                self.assertIsInstance(node, STATEMENTS, where)
            if isinstance(node, ast.expr):
                self.assertIsInstance(node, EXPRESSIONS, where)
            if isinstance(node, ast.Assign):
                self.assertEqual(1, len(node.targets), where)
            if isinstance(node, (ast.For, ast.While)):
                self.assertEqual([], node.orelse, where)
            if isinstance(node, ast.Try):
                self.assertEqual([], node.finalbody, where)
            if isinstance(node, ast.ListComp):
                self.assertEqual(1, len(node.generators), where)
                self.assertLessEqual(len(node.generators[0].ifs), 1, where)
            if isinstance(node, ast.Constant):
                self.assertIn(type(node.value), (int, str, bool, type(None)), where)
            self.assertNotIsInstance(node, (ast.Div, ast.MatMult), where)

    def test_top_of_each_file(self):
        for path, tree in self.trees.items():
            for node in tree.body[1:]:
                self.assertIsInstance(node, (ast.ImportFrom, ast.FunctionDef, ast.ClassDef, ast.Assign), path.name)
            self.assertIsNotNone(ast.get_docstring(tree), path.name)

    def test_imports(self):
        drawn = {}
        for path, tree in self.trees.items():
            drawn[path.stem] = []
            for node in ast.walk(tree):
                if isinstance(node, ast.ImportFrom):
                    self.assertIn(node, tree.body)
                    self.assertEqual(0, node.level)
                    self.assertRegex(node.module, r"^stripcut\.[a-z]+$")
                    source = self.trees[PACKAGE / (node.module.split(".")[1] + ".py")]
                    for alias in node.names:
                        self.assertIsNone(alias.asname)
                        self.assertIn(alias.name, self.top_names(source))
                    drawn[path.stem].append(node.module.split(".")[1])
        while drawn:
            free = [name for name, sources in drawn.items() if not any(source in drawn for source in sources)]
            self.assertNotEqual([], free, "files draw from one another")
            for name in free:
                drawn.pop(name)

    def top_names(self, tree):
        names = []
        for node in tree.body:
            if isinstance(node, (ast.FunctionDef, ast.ClassDef)):
                names.append(node.name)
            if isinstance(node, ast.Assign):
                names.append(node.targets[0].id)
        return names

    def test_names(self):
        own = {name for tree in self.trees.values() for name in self.top_names(tree)}
        for path, tree in self.trees.items():
            top = self.top_names(tree)
            self.assertEqual(len(top), len(set(top)), path.name)
        for where, node in self.nodes():
            if isinstance(node, ast.Name):
                self.assertRegex(node.id, r"^[A-Za-z][A-Za-z0-9_]*$", where)
                self.assertNotIn(node.id, NAMES_OUT, where)
                if hasattr(builtins, node.id):
                    self.assertIn(node.id, BUILT_IN, where)
                    self.assertIsInstance(node.ctx, ast.Load, where)
            if isinstance(node, ast.arg):
                self.assertFalse(hasattr(builtins, node.arg), where)
                self.assertNotIn(node.arg, own, where)
                self.assertIsNone(node.annotation, where)

    def test_locals_are_not_called_like_a_class_or_an_import(self):
        for path, tree in self.trees.items():
            taken = {node.name for node in tree.body if isinstance(node, (ast.FunctionDef, ast.ClassDef))}
            for node in tree.body:
                if isinstance(node, ast.ImportFrom):
                    taken.update(alias.name for alias in node.names)
            for node in ast.walk(tree):
                if isinstance(node, ast.Name) and isinstance(node.ctx, ast.Store):
                    self.assertNotIn(node.id, taken, f"{path.name}:{node.lineno}")

    def test_functions_and_calls(self):
        for where, node in self.nodes():
            if isinstance(node, ast.FunctionDef):
                self.assertEqual([], node.decorator_list, where)
                self.assertIsNone(node.args.vararg or node.args.kwarg, where)
                self.assertEqual([], node.args.kwonlyargs, where)
            if isinstance(node, ast.Call) and isinstance(node.func, ast.Attribute):
                self.assertIn(node.func.attr, METHODS, where)

    def test_interface_stands_in_its_file_alone(self):
        for path, tree in self.trees.items():
            defs = {node.name: node for node in tree.body if isinstance(node, ast.FunctionDef)}
            for name, parameters in INTERFACE.items():
                if path.name != "strips.py":
                    self.assertNotIn(name, defs)
                    continue
                self.assertEqual(parameters, [parameter.arg for parameter in defs[name].args.args])
                self.assertEqual([], defs[name].args.defaults)


if __name__ == "__main__":
    unittest.main()
