"""The form of the package's files: what of LANGUAGE.md's rules can be seen without running them."""

import ast
import builtins
import inspect
import re
import unittest
from pathlib import Path

from wholepointsdesk import polygon

PACKAGE = Path(polygon.__file__).parent
OWN_NAMES = (
    "len range enumerate zip min max sum abs sorted reversed int str bool list tuple dict set frozenset isinstance ord "
    "repr any all divmod Exception ValueError TypeError KeyError IndexError LookupError ZeroDivisionError "
    "ArithmeticError OverflowError RuntimeError NotImplementedError StopIteration"
).split()
OWN_METHODS = (
    "append clear copy count endswith extend find get index insert isalnum isalpha isdigit islower isspace isupper "
    "items join keys ljust lower lstrip partition pop remove replace reverse rfind rjust rpartition rsplit rstrip "
    "setdefault split splitlines startswith strip update upper values zfill bit_length"
).split()
NO_WORDS = (
    r"\b(type|typing|typing_extensions|enum|Enum|IntEnum|StrEnum|Flag|IntFlag|Generic|Protocol|ABC|ABCMeta|namedtuple|"
    r"NamedTuple|TypedDict|TYPE_CHECKING|abstractmethod)\b|dataclass|overload|contextmanager"
)
NO_NODES = (
    ast.With, ast.Match, ast.Delete, ast.Global, ast.Nonlocal, ast.Assert, ast.Yield, ast.YieldFrom, ast.Await,
    ast.AsyncFunctionDef, ast.AsyncFor, ast.AsyncWith, ast.SetComp, ast.DictComp, ast.GeneratorExp, ast.NamedExpr,
    ast.Starred, ast.Div, ast.MatMult, ast.Import, ast.AnnAssign,
)


def files():
    return sorted(PACKAGE.glob("*.py"))


def nodes():
    for path in files():
        for node in ast.walk(ast.parse(path.read_text(encoding="utf-8"))):
            yield path, node


def own_attributes():
    """The package's own methods and values of objects."""
    names = set()
    for path, node in nodes():
        if isinstance(node, ast.ClassDef):
            names |= {part.name for part in node.body if isinstance(part, ast.FunctionDef)}
        if isinstance(node, ast.Attribute) and isinstance(node.ctx, ast.Store):
            names.add(node.attr)
    return names


class Files(unittest.TestCase):
    def test_nothing_but_plain_files(self):
        found = [path.name for path in PACKAGE.iterdir() if path.name != "__pycache__"]
        self.assertEqual(sorted(found), [path.name for path in files()])
        for name in found:
            self.assertRegex(name, r"^([a-z][a-z0-9_]*|__init__|__main__)\.py$")
            self.assertFalse(hasattr(builtins, name[:-3]) and name != "__init__.py")

    def test_signs_and_size(self):
        for path in files():
            text = path.read_bytes().decode("ascii")
            self.assertRegex(text, r"\A[ -~\n]*\Z")
            self.assertLessEqual(len(text.splitlines()), 400)
            self.assertLessEqual(max(len(row) for row in text.splitlines()), 120)

    def test_words_that_stand_nowhere(self):
        for path in files():
            self.assertIsNone(re.search(NO_WORDS, path.read_text()), path.name)


class Code(unittest.TestCase):
    def test_nodes(self):
        for path, node in nodes():
            self.assertNotIsInstance(node, NO_NODES, f"{path.name}:{getattr(node, 'lineno', 0)}")
            if isinstance(node, ast.Assign):
                self.assertEqual(len(node.targets), 1)
            if isinstance(node, (ast.For, ast.While)):
                self.assertEqual(node.orelse, [])
            if isinstance(node, ast.Constant):
                self.assertNotIsInstance(node.value, (float, bytes, complex))
            if isinstance(node, ast.ListComp):
                self.assertEqual(len(node.generators), 1)
                self.assertLessEqual(len(node.generators[0].ifs), 1)

    def test_functions(self):
        for path, node in nodes():
            if isinstance(node, ast.FunctionDef):
                self.assertLessEqual(node.end_lineno - node.lineno + 1, 40, node.name)
                self.assertEqual(node.decorator_list, [])
                self.assertIsNone(node.args.vararg or node.args.kwarg)
                self.assertEqual(node.args.kwonlyargs, [])

    def test_imports_of_its_own_alone(self):
        for path, node in nodes():
            if isinstance(node, ast.ImportFrom):
                self.assertRegex(node.module, r"^wholepointsdesk\.[a-z]+$")
                self.assertEqual(node.level, 0)

    def test_names(self):
        for path, node in nodes():
            if isinstance(node, ast.Name):
                self.assertRegex(node.id, r"^[A-Za-z][A-Za-z0-9_]*$")
                if hasattr(builtins, node.id):
                    self.assertIn(node.id, OWN_NAMES)
                    self.assertIsInstance(node.ctx, ast.Load)
            if isinstance(node, ast.arg):
                self.assertFalse(hasattr(builtins, node.arg), node.arg)

    def test_locals_are_not_called_like_an_import(self):
        for path in files():
            tree = ast.parse(path.read_text(encoding="utf-8"))
            tops = {name.name for node in tree.body if isinstance(node, ast.ImportFrom) for name in node.names}
            tops |= {node.name for node in tree.body if isinstance(node, ast.ClassDef)}
            for node in ast.walk(tree):
                if isinstance(node, ast.Name) and isinstance(node.ctx, ast.Store):
                    self.assertNotIn(node.id, tops)
                if isinstance(node, ast.arg):
                    self.assertNotIn(node.arg, tops)

    def test_no_name_is_a_method_and_a_value(self):
        methods, values = set(), set()
        for path, node in nodes():
            if isinstance(node, ast.ClassDef):
                methods |= {part.name for part in node.body if isinstance(part, ast.FunctionDef)}
            if isinstance(node, ast.Attribute) and isinstance(node.ctx, ast.Store):
                values.add(node.attr)
        self.assertEqual(methods & values, set())

    def test_no_two_files_draw_from_one_another(self):
        drawn = {path.stem: set() for path in files()}
        for path, node in nodes():
            if isinstance(node, ast.ImportFrom):
                drawn[path.stem].add(node.module.split(".")[1])
        while drawn:
            free = [name for name in drawn if not drawn[name] & set(drawn)]
            self.assertNotEqual(free, [])
            drawn = {name: others for name, others in drawn.items() if name not in free}

    def test_methods(self):
        known = own_attributes() | set(OWN_METHODS)
        for path, node in nodes():
            if isinstance(node, ast.Attribute):
                self.assertIn(node.attr, known)


class Interface(unittest.TestCase):
    def test_answers_takes_calls(self):
        self.assertEqual(list(inspect.signature(polygon.answers).parameters), ["calls"])
        self.assertEqual(polygon.answers(calls=[5]), [1, -6])


if __name__ == "__main__":
    unittest.main()
