"""The package's own files keep to the small part of Python that the project uses (the rules that a test can see)."""

import ast
import builtins
import pathlib
import re
import unittest

PACKAGE = pathlib.Path(__file__).resolve().parent.parent / "calledshores"
FILES = sorted(path for path in PACKAGE.rglob("*") if path.is_file() and "__pycache__" not in path.parts)

OWN_NAMES = set(
    "len range enumerate zip min max sum abs sorted reversed int str bool list tuple dict set frozenset isinstance "
    "ord repr any all divmod Exception ValueError TypeError KeyError IndexError LookupError ZeroDivisionError "
    "ArithmeticError OverflowError RuntimeError NotImplementedError AttributeError StopIteration".split()
)
OWN_METHODS = set(
    "append clear copy count endswith extend find get index insert isalnum isalpha isdigit islower isspace isupper "
    "items join keys ljust lower lstrip partition pop remove replace reverse rfind rjust rpartition rsplit rstrip "
    "setdefault split splitlines startswith strip update upper values zfill bit_length".split()
)
BARRED_NAMES = set("register mro elements open input version_info with_traceback add_note".split())
BARRED_WORDS = re.compile(
    r"\b(type|typing|typing_extensions|enum|Enum|IntEnum|StrEnum|Flag|IntFlag|Generic|Protocol|ABC|ABCMeta|namedtuple"
    r"|NamedTuple|TypedDict|TYPE_CHECKING|abstractmethod)\b|dataclass|overload|contextmanager"
)
BARRED_FORMS = (
    ast.Import, ast.ImportFrom, ast.With, ast.Match, ast.Delete, ast.Global, ast.Nonlocal, ast.Assert, ast.Yield,
    ast.YieldFrom, ast.AsyncFunctionDef, ast.Await, ast.SetComp, ast.DictComp, ast.GeneratorExp, ast.NamedExpr,
    ast.Starred, ast.Div, ast.MatMult, ast.AnnAssign,
)


def nodes(path):
    return list(ast.walk(ast.parse(path.read_text(encoding="utf-8"))))


class LanguageTest(unittest.TestCase):
    def test_files(self):
        self.assertEqual([path.name for path in FILES], ["__init__.py", "radio.py"])

    def test_signs_and_sizes(self):
        for path in FILES:
            text = path.read_text(encoding="utf-8")
            self.assertTrue(all(sign == "\n" or " " <= sign <= "~" for sign in text), path)
            rows = text.split("\n")
            self.assertLessEqual(len(rows), 399, path)
            self.assertLessEqual(max(len(row) for row in rows), 120, path)

    def test_sizes_of_functions(self):
        for path in FILES:
            for node in nodes(path):
                if isinstance(node, ast.FunctionDef):
                    self.assertLessEqual(node.end_lineno - node.lineno + 1, 40, node.name)

    def test_words(self):
        for path in FILES:
            self.assertIsNone(BARRED_WORDS.search(path.read_text(encoding="utf-8")), path)

    def test_forms(self):
        for path in FILES:
            for node in nodes(path):
                self.assertNotIsInstance(node, BARRED_FORMS, path)
                if isinstance(node, ast.Constant):
                    self.assertNotIsInstance(node.value, (float, bytes, complex), path)
                if isinstance(node, ast.Assign):
                    self.assertEqual(len(node.targets), 1, ast.dump(node))

    def test_names(self):
        for path in FILES:
            for node in nodes(path):
                name = getattr(node, "id", None) or getattr(node, "arg", None) or getattr(node, "name", None)
                name = name or getattr(node, "attr", None)
                if not isinstance(name, str):
                    continue
                self.assertNotIn(name, BARRED_NAMES)
                self.assertFalse(name.startswith("_") and name != "__init__", name)
                if isinstance(node, ast.Name) and isinstance(node.ctx, ast.Load) and name in vars(builtins):
                    self.assertIn(name, OWN_NAMES)
                elif not isinstance(node, ast.Attribute):
                    self.assertFalse(name in vars(builtins), name)

    def test_methods(self):
        for path in FILES:
            own = {node.name for node in nodes(path) if isinstance(node, ast.FunctionDef)}
            for node in nodes(path):
                if isinstance(node, ast.Call) and isinstance(node.func, ast.Attribute):
                    self.assertIn(node.func.attr, own | OWN_METHODS)

    def test_no_name_is_a_method_here_and_a_value_there(self):
        methods, values = set(), set()
        for path in FILES:
            for node in nodes(path):
                if isinstance(node, ast.ClassDef):
                    methods |= {part.name for part in node.body if isinstance(part, ast.FunctionDef)}
                if isinstance(node, ast.Attribute) and isinstance(node.ctx, ast.Store):
                    values.add(node.attr)
        self.assertEqual(methods & values, set())

    def test_each_name_is_bound_once_at_the_top_and_no_local_has_the_name_of_a_class(self):
        for path in FILES:
            top = ast.parse(path.read_text(encoding="utf-8")).body
            bound = [part.name for part in top if isinstance(part, (ast.FunctionDef, ast.ClassDef))]
            bound += [part.targets[0].id for part in top if isinstance(part, ast.Assign)]
            self.assertEqual(len(set(bound)), len(bound), path)
            classes = {part.name for part in top if isinstance(part, ast.ClassDef)}
            for node in nodes(path):
                stored = isinstance(node, ast.Name) and isinstance(node.ctx, ast.Store) and node.id
                self.assertNotIn(stored or getattr(node, "arg", None), classes)


if __name__ == "__main__":
    unittest.main()
