"""What can be checked by reading of the form that the package's files keep to."""
import ast
import pathlib
import re
import unittest

PACKAGE = pathlib.Path(__file__).resolve().parent.parent / "oneinstruction"
FILES = sorted(PACKAGE.glob("*.py"))
NO_STATEMENTS = (
    ast.Import, ast.ImportFrom, ast.With, ast.Match, ast.Delete, ast.Global, ast.Nonlocal, ast.Assert, ast.Yield,
    ast.YieldFrom, ast.AsyncFunctionDef, ast.Await, ast.NamedExpr, ast.Starred, ast.Div, ast.Set, ast.SetComp,
    ast.DictComp, ast.GeneratorExp, ast.AnnAssign,
)
NO_WORDS = re.compile(
    r"\b(type|typing|typing_extensions|enum|Enum|IntEnum|StrEnum|Flag|IntFlag|Generic|Protocol|ABC|ABCMeta"
    r"|namedtuple|NamedTuple|TypedDict|TYPE_CHECKING|abstractmethod)\b|dataclass|overload|contextmanager"
)
OWN_NAMES = set(
    "len range enumerate zip min max sum abs sorted reversed int str bool list tuple dict set frozenset isinstance ord"
    " repr any all divmod Exception ValueError KeyError IndexError LookupError ZeroDivisionError StopIteration".split()
)
OWN_METHODS = set(
    "append clear copy count endswith extend find get index insert isalnum isalpha isdigit islower isspace isupper"
    " items join keys ljust lower lstrip partition pop remove replace reverse rfind rjust rpartition rsplit rstrip"
    " setdefault split splitlines startswith strip update upper values zfill bit_length".split()
)


class Form(unittest.TestCase):
    def test_only_plain_files_lie_in_the_package(self):
        names = {path.name for path in PACKAGE.iterdir()} - {"__pycache__"}
        self.assertEqual(names, {path.name for path in FILES})
        self.assertIn("__init__.py", names)
        self.assertIn("words.py", names)

    def test_size_and_signs(self):
        for path in FILES:
            lines = path.read_text(encoding="ascii").split("\n")
            self.assertLessEqual(len(lines), 400, path)
            for line in lines:
                self.assertRegex(line, r"\A[ -~]{0,120}\Z", path)
                self.assertIsNone(NO_WORDS.search(line), line)

    def test_statements(self):
        for path in FILES:
            for node in ast.walk(ast.parse(path.read_text())):
                self.assertNotIsInstance(node, NO_STATEMENTS, path)
                if isinstance(node, ast.FunctionDef):
                    self.assertLessEqual(node.end_lineno - node.lineno + 1, 40, node.name)
                    self.assertEqual(node.decorator_list, [])
                if isinstance(node, (ast.For, ast.While)):
                    self.assertEqual(node.orelse, [])

    def test_methods_and_texts_with_names_in_them(self):
        for path in FILES:
            for node in ast.walk(ast.parse(path.read_text())):
                if isinstance(node, ast.Attribute):
                    self.assertIn(node.attr, OWN_METHODS)
                if isinstance(node, ast.FormattedValue):
                    self.assertIsInstance(node.value, ast.Name)

    def test_the_top_of_a_file_holds_plain_values_bound_once(self):
        for path in FILES:
            bound = []
            for node in ast.parse(path.read_text()).body:
                if isinstance(node, ast.FunctionDef):
                    bound.append(node.name)
                elif isinstance(node, ast.Assign):
                    bound.append(node.targets[0].id)
                    ast.literal_eval(node.value)
                else:
                    self.assertIsInstance(node.value, ast.Constant)
            self.assertEqual(len(bound), len(set(bound)), path)

    def test_the_names_read_are_the_package_s_own_or_allowed(self):
        for path in FILES:
            tree = ast.parse(path.read_text())
            bound = {node.name for node in ast.walk(tree) if isinstance(node, ast.FunctionDef)}
            bound |= {node.arg for node in ast.walk(tree) if isinstance(node, ast.arg)}
            names = [node for node in ast.walk(tree) if isinstance(node, ast.Name)]
            bound |= {node.id for node in names if isinstance(node.ctx, ast.Store)}
            self.assertEqual(bound & OWN_NAMES, set())
            self.assertLessEqual({node.id for node in names if isinstance(node.ctx, ast.Load)}, bound | OWN_NAMES)


if __name__ == "__main__":
    unittest.main()
