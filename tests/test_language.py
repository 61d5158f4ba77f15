"""Holds the package's files to the rules of LANGUAGE.md that a look at the syntax can tell."""

import ast
import builtins
import pathlib
import re
import unittest

PACKAGE = pathlib.Path(__file__).resolve().parent.parent / "fewplaces"

ALLOWED_BUILTINS = set(
    "len range enumerate zip min max sum abs sorted reversed int str bool list tuple dict set frozenset isinstance "
    "ord repr any all divmod Exception ValueError TypeError KeyError IndexError LookupError ZeroDivisionError "
    "ArithmeticError OverflowError RuntimeError NotImplementedError AttributeError StopIteration".split()
)
ALLOWED_METHODS = set(
    "append clear copy count endswith extend find get index insert isalnum isalpha isdigit islower isspace isupper "
    "items join keys ljust lower lstrip partition pop remove replace reverse rfind rjust rpartition rsplit rstrip "
    "setdefault split splitlines startswith strip update upper values zfill bit_length".split()
)
OUT_OF_USE = (
    ast.With, ast.Match, ast.Delete, ast.Global, ast.Nonlocal, ast.Assert, ast.Yield, ast.YieldFrom, ast.Await,
    ast.AsyncFunctionDef, ast.AsyncFor, ast.AsyncWith, ast.NamedExpr, ast.Starred, ast.SetComp, ast.DictComp,
    ast.GeneratorExp, ast.Div, ast.MatMult, ast.Import, ast.AnnAssign,
)
WORDS_OUT_OF_USE = re.compile(
    r"\b(type|typing|typing_extensions|enum|Enum|IntEnum|StrEnum|Flag|IntFlag|Generic|Protocol|ABC|ABCMeta|namedtuple"
    r"|NamedTuple|TypedDict|TYPE_CHECKING|abstractmethod)\b|dataclass|overload|contextmanager"
)


def sources():
    return sorted(path for path in PACKAGE.rglob("*") if "__pycache__" not in path.parts and path.is_file())


def trees():
    return [(path, ast.parse(path.read_text("ascii"))) for path in sources()]


def nodes():
    return [(f"{path.name}:{getattr(node, 'lineno', 1)}", node) for path, tree in trees() for node in ast.walk(tree)]


class Language(unittest.TestCase):
    def test_files(self):
        self.assertIn(PACKAGE / "__init__.py", sources())
        for path in sources():
            self.assertRegex(path.name, r"^([a-z][a-z0-9_]*|__init__|__main__)\.py$")

    def test_signs_and_sizes(self):
        for path in sources():
            text = path.read_bytes().decode("ascii")
            self.assertRegex(text, r"\A[ -~\n]*\Z", path)
            self.assertLessEqual(len(text.splitlines()), 400, path)
            self.assertLessEqual(max(map(len, text.splitlines()), default=0), 120, path)
            self.assertIsNone(WORDS_OUT_OF_USE.search(text), path)

    def test_imports_are_the_package_s_own(self):
        for where, node in nodes():
            if isinstance(node, ast.ImportFrom):
                self.assertTrue(node.level == 0 and node.module.startswith("fewplaces."), where)
                self.assertNotIn("*", [alias.name for alias in node.names], where)

    def test_forms(self):
        for where, node in nodes():
            self.assertNotIsInstance(node, OUT_OF_USE, where)
            if isinstance(node, ast.Assign):
                self.assertEqual(len(node.targets), 1, where)
            if isinstance(node, (ast.For, ast.While)):
                self.assertEqual(node.orelse, [], where)
            if isinstance(node, ast.Try):
                self.assertEqual(node.finalbody, [], where)
            if isinstance(node, ast.Constant):
                self.assertNotIsInstance(node.value, (float, complex, bytes), where)

    def test_functions(self):
        for where, node in nodes():
            if isinstance(node, ast.FunctionDef):
                self.assertLessEqual(node.end_lineno - node.lineno + 1, 40, where)
                self.assertEqual(node.decorator_list, [], where)
                self.assertTrue(node.args.vararg is None and node.args.kwarg is None, where)
                self.assertEqual(node.args.kwonlyargs, [], where)

    def test_classes_stand_at_the_top_with_one_base_at_most(self):
        tops = [node for path, tree in trees() for node in tree.body]
        for where, node in nodes():
            if isinstance(node, ast.ClassDef):
                self.assertTrue(any(node.name == getattr(top, "name", None) for top in tops), where)
                self.assertLessEqual(len(node.bases), 1, where)
                self.assertEqual(node.decorator_list, [], where)

    def test_names(self):
        for where, node in nodes():
            if isinstance(node, ast.Name):
                self.assertFalse(node.id.startswith("_"), where)
                if isinstance(node.ctx, ast.Store):
                    self.assertFalse(hasattr(builtins, node.id), where)
                elif hasattr(builtins, node.id):
                    self.assertIn(node.id, ALLOWED_BUILTINS, where)
            if isinstance(node, ast.arg):
                self.assertFalse(hasattr(builtins, node.arg) or node.arg.startswith("_"), where)

    def test_methods(self):
        own = {node.name for where, node in nodes() if isinstance(node, ast.FunctionDef)}
        for where, node in nodes():
            if isinstance(node, ast.Call) and isinstance(node.func, ast.Attribute):
                self.assertIn(node.func.attr, ALLOWED_METHODS | own | {"__init__"}, where)

    def test_own_methods_and_values(self):
        classes = [node for where, node in nodes() if isinstance(node, ast.ClassDef)]
        methods = {part.name for node in classes for part in node.body if isinstance(part, ast.FunctionDef)}
        values = {
            node.attr for where, node in nodes() if isinstance(node, ast.Attribute) and isinstance(node.ctx, ast.Store)
        }
        python_s_own = {name for kind in (str, int, list, tuple, dict, set, bytes) for name in dir(kind)}
        self.assertEqual(methods & values, set())
        self.assertLessEqual((methods | values) & python_s_own, {"__init__"})

    def test_is_stands_beside_plain_values_alone(self):
        for where, node in nodes():
            if isinstance(node, ast.Compare) and any(isinstance(op, (ast.Is, ast.IsNot)) for op in node.ops):
                values = [part.value for part in node.comparators if isinstance(part, ast.Constant)]
                self.assertTrue(values and all(value in (None, True, False) for value in values), where)


if __name__ == "__main__":
    unittest.main()
