"""The package's files keep to the part of Python that the project allows, as far as a test can see it."""

import ast
import builtins
import re
import unittest
from pathlib import Path

PACKAGE = Path(__file__).resolve().parent.parent / "seamless"
FILES = sorted(path for path in PACKAGE.rglob("*") if "__pycache__" not in path.parts)

OWN_NAMES = set("""len range enumerate zip min max sum abs sorted reversed int str bool list tuple dict set frozenset
    isinstance ord repr any all divmod Exception ValueError TypeError KeyError IndexError LookupError
    ZeroDivisionError ArithmeticError OverflowError RuntimeError NotImplementedError AttributeError
    StopIteration""".split())
METHODS = set("""append clear copy count endswith extend find get index insert isalnum isalpha isdigit islower isspace
    isupper items join keys ljust lower lstrip partition pop remove replace reverse rfind rjust rpartition rsplit
    rstrip setdefault split splitlines startswith strip update upper values zfill bit_length""".split())
NODES = (ast.With, ast.Match, ast.Delete, ast.Global, ast.Nonlocal, ast.Assert, ast.Yield, ast.YieldFrom, ast.Await,
         ast.AsyncFunctionDef, ast.AsyncFor, ast.AsyncWith, ast.SetComp, ast.DictComp, ast.GeneratorExp,
         ast.NamedExpr, ast.Starred, ast.Div, ast.AnnAssign, ast.Import, ast.MatMult)
WORDS = re.compile(r"\b(type|typing|typing_extensions|enum|Enum|IntEnum|StrEnum|Flag|IntFlag|Generic|Protocol|ABC|"
                   r"ABCMeta|namedtuple|NamedTuple|TypedDict|TYPE_CHECKING|abstractmethod)\b|"
                   r"dataclass|overload|contextmanager")


def trees():
    return [(path, ast.parse(path.read_text(encoding="ascii"))) for path in FILES]


def nodes(kind):
    return [(path, node) for path, tree in trees() for node in ast.walk(tree) if isinstance(node, kind)]


class Language(unittest.TestCase):
    def test_files_are_plain(self):
        self.assertIn(PACKAGE / "__init__.py", FILES)
        for path in FILES:
            self.assertRegex(path.name, r"^[a-z0-9_]+\.py$")
            self.assertRegex(path.read_text(encoding="ascii"), r"\A[\n -~]*\Z")

    def test_sizes(self):
        for path in FILES:
            lines = path.read_text().splitlines()
            self.assertLessEqual(len(lines), 400)
            self.assertLessEqual(max(map(len, lines)), 120)
        for path, node in nodes(ast.FunctionDef):
            self.assertLessEqual(node.end_lineno - node.lineno + 1, 40, (path, node.name))

    def test_imports_are_the_packages_own(self):
        for path, node in nodes(ast.ImportFrom):
            self.assertTrue(node.module.startswith("seamless."), path)
            drawn = ast.parse((PACKAGE.parent / (node.module.replace(".", "/") + ".py")).read_text())
            defined = [part.name for part in drawn.body if isinstance(part, (ast.FunctionDef, ast.ClassDef))]
            for name in node.names:
                self.assertIn(name.name, defined)

    def test_the_top_of_a_file_does_nothing(self):
        for path, tree in trees():
            for part in tree.body:
                if isinstance(part, ast.Assign):
                    ast.literal_eval(part.value)
                elif isinstance(part, ast.Expr):
                    self.assertIsInstance(part.value.value, str)
                else:
                    self.assertIsInstance(part, (ast.FunctionDef, ast.ClassDef, ast.ImportFrom), path)

    def test_forms_that_are_not_used(self):
        for path, node in nodes(NODES):
            self.fail(f"{path.name}:{node.lineno}: {node}")
        for path, node in nodes(ast.Assign):
            self.assertEqual(len(node.targets), 1)
        for path, node in nodes((ast.For, ast.While)):
            self.assertEqual(node.orelse, [])
        for path, node in nodes(ast.Constant):
            self.assertIn(node.value.__class__, (int, str, bool, None.__class__))
        for path, node in nodes((ast.FunctionDef, ast.ClassDef)):
            self.assertEqual(node.decorator_list, [])

    def test_names(self):
        for path, node in nodes(ast.Name):
            self.assertRegex(node.id, "^[A-Za-z]")
            if hasattr(builtins, node.id):
                self.assertIn(node.id, OWN_NAMES, path)
                self.assertIsInstance(node.ctx, ast.Load, (path, node.id))
        for path, node in nodes(ast.arg):
            self.assertFalse(hasattr(builtins, node.arg), (path, node.arg))
        for path, node in nodes(ast.Call):
            if isinstance(node.func, ast.Attribute):
                self.assertIn(node.func.attr, METHODS, path)

    def test_each_name_is_bound_once_and_shadows_nothing(self):
        for path, tree in trees():
            top = []
            for part in tree.body:
                if isinstance(part, ast.Assign):
                    top.append(part.targets[0].id)
                elif isinstance(part, (ast.FunctionDef, ast.ClassDef)):
                    top.append(part.name)
                elif isinstance(part, ast.ImportFrom):
                    top.extend(name.asname or name.name for name in part.names)
            self.assertEqual(len(top), len(set(top)), path)
            for node in ast.walk(tree):
                if isinstance(node, ast.arg):
                    self.assertNotIn(node.arg, top, path)
                elif isinstance(node, ast.Name) and isinstance(node.ctx, ast.Store) and node.col_offset > 0:
                    self.assertNotIn(node.id, top, path)

    def test_no_two_files_draw_from_one_another(self):
        drawn = {}
        for path, tree in trees():
            drawn[f"seamless.{path.stem}"] = {part.module for part in tree.body if isinstance(part, ast.ImportFrom)}
        while drawn:
            free = [name for name in drawn if not drawn[name] & set(drawn)]
            self.assertTrue(free, drawn)
            for name in free:
                drawn.pop(name)

    def test_comparisons_with_is(self):
        for path, node in nodes(ast.Compare):
            for operator, other in zip(node.ops, node.comparators):
                if isinstance(operator, (ast.Is, ast.IsNot)):
                    self.assertIsInstance(other, ast.Constant, (path, node.lineno))

    def test_what_is_walked_at_once_is_not_kept(self):
        walked = ("zip", "enumerate", "reversed", "range", "items", "keys", "values")
        for path, node in nodes((ast.Assign, ast.Return, ast.AugAssign)):
            if isinstance(node.value, ast.Call):
                name = getattr(node.value.func, "id", getattr(node.value.func, "attr", ""))
                self.assertNotIn(name, walked, (path, node.lineno))

    def test_calls_have_no_stray_keywords(self):
        for path, node in nodes(ast.Call):
            for keyword in node.keywords:
                self.assertIn(keyword.arg, ("key", "default", "reverse", "start", "strict"), (path, node.lineno))

    def test_texts_and_exponents(self):
        for path, node in nodes(ast.Constant):
            if isinstance(node.value, str):
                self.assertNotIn("%", node.value, (path, node.lineno))
        for path, node in nodes(ast.Pow):
            self.fail(path)

    def test_words_that_stand_nowhere(self):
        for path in FILES:
            self.assertIsNone(WORDS.search(path.read_text()), path)
