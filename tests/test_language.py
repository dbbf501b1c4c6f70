"""The part of ../shared/LANGUAGE.md that a short look at the package's files can check."""

import ast
import builtins
import pathlib
import re
import unittest

PACKAGE = pathlib.Path(__file__).resolve().parent.parent / "treestylesdesk"
FILES = sorted(PACKAGE.rglob("*.py"))
TREES = {path: ast.parse(path.read_text("ascii")) for path in FILES}

BUILT_IN = """len range enumerate zip min max sum abs sorted reversed int str bool list tuple dict set frozenset
isinstance ord repr any all divmod Exception ValueError TypeError KeyError IndexError LookupError ZeroDivisionError
ArithmeticError OverflowError RuntimeError NotImplementedError AttributeError StopIteration""".split()
METHODS = """append clear copy count endswith extend find get index insert isalnum isalpha isdigit islower isspace
isupper items join keys ljust lower lstrip partition pop remove replace reverse rfind rjust rpartition rsplit rstrip
setdefault split splitlines startswith strip update upper values zfill bit_length""".split()
WORDS_OUT = """type typing typing_extensions enum Enum IntEnum StrEnum Flag IntFlag Generic Protocol ABC ABCMeta
namedtuple NamedTuple TypedDict TYPE_CHECKING abstractmethod""".split()
NAMES_OUT = "register mro elements open input version_info with_traceback add_note format format_map".split()
FORMS_OUT = (ast.With, ast.Match, ast.Delete, ast.Global, ast.Nonlocal, ast.Assert, ast.Yield, ast.YieldFrom,
             ast.AsyncFunctionDef, ast.Await, ast.SetComp, ast.DictComp, ast.GeneratorExp, ast.NamedExpr,
             ast.Starred, ast.Div, ast.Import, ast.AnnAssign)


def nodes(form):
    for path, tree in TREES.items():
        for node in ast.walk(tree):
            if isinstance(node, form):
                yield path.name, node


class Language(unittest.TestCase):
    def test_files(self):
        self.assertIn(PACKAGE / "__init__.py", FILES)
        self.assertIn(PACKAGE / "desk.py", FILES)
        for path in PACKAGE.rglob("*"):
            if "__pycache__" not in path.parts:
                self.assertEqual(path.suffix, ".py", path)
                self.assertRegex(path.stem, "^(__init__|[a-z][a-z0-9_]*)$")

    def test_size_and_signs(self):
        for path in FILES:
            text = path.read_text("ascii")
            self.assertLessEqual(len(text.splitlines()), 400, path)
            for line in text.split("\n"):
                self.assertRegex(line, "^[ -~]{0,120}$", path)
        for name, node in nodes(ast.FunctionDef):
            self.assertLessEqual(node.end_lineno - node.lineno + 1, 40, (name, node.name))
            self.assertEqual(node.decorator_list, [], (name, node.name))

    def test_imports(self):
        for name, node in nodes(ast.ImportFrom):
            self.assertEqual(node.level, 0, name)
            self.assertRegex(node.module, r"^treestylesdesk\.[a-z_]+$", name)
            for drawn in node.names:
                self.assertNotEqual(drawn.name, "*", name)

    def test_forms(self):
        self.assertEqual([(name, node.lineno) for name, node in nodes(FORMS_OUT)], [])
        for name, node in nodes(ast.Constant):
            self.assertIn(node.value.__class__, (int, str, bool, None.__class__), (name, node.lineno))
        for name, node in nodes(ast.Assign):
            self.assertEqual(len(node.targets), 1, (name, node.lineno))
        for name, node in nodes((ast.For, ast.While)):
            self.assertEqual(node.orelse, [], (name, node.lineno))

    def test_top_of_a_file(self):
        allowed = (ast.Expr, ast.ImportFrom, ast.FunctionDef, ast.ClassDef, ast.Assign)
        for path, tree in TREES.items():
            for node in tree.body:
                self.assertIsInstance(node, allowed, path)
                if isinstance(node, ast.Assign):
                    ast.literal_eval(node.value)

    def test_names(self):
        for name, node in nodes(ast.Name):
            if hasattr(builtins, node.id):
                self.assertIn(node.id, BUILT_IN, (name, node.lineno))
                self.assertIsInstance(node.ctx, ast.Load, (name, node.lineno))
            self.assertRegex(node.id, "^[A-Za-z][A-Za-z0-9_]*$", (name, node.lineno))
            self.assertNotIn(node.id, NAMES_OUT, (name, node.lineno))
        for name, node in nodes(ast.arg):
            self.assertFalse(hasattr(builtins, node.arg), (name, node.arg))

    def test_words_that_stand_nowhere(self):
        for path in FILES:
            words = re.findall("[A-Za-z_]+", path.read_text("ascii"))
            self.assertEqual([word for word in words if word in WORDS_OUT], [], path)

    def test_methods_and_values_of_objects(self):
        own = {held.name for name, node in nodes(ast.ClassDef) for held in node.body
               if isinstance(held, ast.FunctionDef)}
        stored = {node.attr for name, node in nodes(ast.Attribute) if isinstance(node.ctx, ast.Store)}
        self.assertEqual(own & stored, set())
        for name, node in nodes(ast.Call):
            if isinstance(node.func, ast.Attribute):
                self.assertIn(node.func.attr, own | set(METHODS), (name, node.lineno))


if __name__ == "__main__":
    unittest.main()
