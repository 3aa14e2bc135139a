"""What can be seen of the form of the package's files: LANGUAGE.md, the rules that a slip breaks most easily."""

import ast
import builtins
import pathlib
import re
import unittest

PACKAGE = pathlib.Path(__file__).resolve().parent.parent / "partscript"
FILES = sorted(PACKAGE.glob("*.py"))

NAMES = """len range enumerate zip min max sum abs sorted reversed int str bool list tuple dict set frozenset isinstance
ord repr any all divmod""".split()
METHODS = """append clear copy count endswith extend find get index insert isalnum isalpha isdigit islower isspace isupper
items join keys ljust lower lstrip partition pop remove replace reverse rfind rjust rpartition rsplit rstrip setdefault
split splitlines startswith strip update upper values zfill bit_length""".split()
WORDS = """type typing typing_extensions enum Enum IntEnum StrEnum Flag IntFlag Generic Protocol ABC ABCMeta namedtuple
NamedTuple TypedDict TYPE_CHECKING abstractmethod""".split()
LEFT_OUT = (
    ast.Import, ast.ImportFrom, ast.With, ast.Match, ast.Delete, ast.Global, ast.Nonlocal, ast.Assert, ast.Yield,
    ast.YieldFrom, ast.Await, ast.AsyncFunctionDef, ast.SetComp, ast.DictComp, ast.GeneratorExp, ast.NamedExpr,
    ast.Starred, ast.Div,
)


class Form(unittest.TestCase):
    def test_only_modules_lie_in_the_package(self):
        found = {path.name for path in PACKAGE.iterdir() if path.name != "__pycache__"}
        self.assertEqual(found, {"__init__.py", "parts.py"})

    def test_signs_and_size(self):
        for path in FILES:
            text = path.read_bytes().decode("ascii")
            self.assertRegex(text, r"\A[ -~\n]*\Z")
            lines = text.split("\n")
            self.assertLessEqual(len(lines), 400)
            self.assertLessEqual(max(map(len, lines)), 120)

    def test_words_that_stand_nowhere(self):
        for path in FILES:
            self.assertEqual(set(re.findall(r"\w+", path.read_text())) & set(WORDS), set())

    def test_functions_have_at_most_forty_lines(self):
        for node in self.nodes(ast.FunctionDef):
            self.assertLessEqual(node.end_lineno - node.lineno + 1, 40, node.name)
            self.assertEqual(node.decorator_list, [])

    def test_nothing_that_is_left_out(self):
        for node in self.nodes(LEFT_OUT):
            self.fail(f"{type(node).__name__} in line {getattr(node, 'lineno', '?')}")

    def test_names(self):
        for node in self.nodes(ast.Name):
            if node.id in dir(builtins):
                self.assertIn(node.id, NAMES)
                self.assertIsInstance(node.ctx, ast.Load)
        for node in self.nodes(ast.arg):
            self.assertNotIn(node.arg, dir(builtins))
        for node in self.nodes(ast.Attribute):
            self.assertIn(node.attr, METHODS)

    def nodes(self, kinds):
        trees = [ast.parse(path.read_text()) for path in FILES]
        return [node for tree in trees for node in ast.walk(tree) if isinstance(node, kinds)]


if __name__ == "__main__":
    unittest.main()
