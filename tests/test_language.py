"""The rules of LANGUAGE.md that can be seen from the files alone, as far as they are easily broken."""

import ast
import builtins
import pathlib
import re
import unittest

FOLDER = pathlib.Path(__file__).resolve().parent.parent / "nearwords"
FILES = sorted(FOLDER.glob("*.py"))
PYTHONS_OWN = set("""len range enumerate zip min max sum abs sorted reversed int str bool list tuple dict set frozenset
    isinstance ord repr any all divmod Exception ValueError TypeError KeyError IndexError LookupError
    ZeroDivisionError ArithmeticError OverflowError RuntimeError NotImplementedError AttributeError
    StopIteration""".split())
WORDS_NOWHERE = set("""type typing typing_extensions enum Enum IntEnum StrEnum Flag IntFlag Generic Protocol ABC ABCMeta
    namedtuple NamedTuple TypedDict TYPE_CHECKING abstractmethod""".split())
OUT_OF_USE = (ast.With, ast.Match, ast.Delete, ast.Global, ast.Nonlocal, ast.Assert, ast.Yield, ast.YieldFrom,
              ast.Await, ast.AsyncFunctionDef, ast.GeneratorExp, ast.SetComp, ast.DictComp, ast.NamedExpr,
              ast.Starred, ast.Div, ast.Import, ast.AnnAssign)


def nodes(path, kinds):
    return [node for node in ast.walk(ast.parse(path.read_text())) if isinstance(node, kinds)]


class Language(unittest.TestCase):
    def test_only_plain_python_files(self):
        found = sorted(path for path in FOLDER.iterdir() if path.name != "__pycache__")
        self.assertEqual(found, FILES)
        self.assertIn(FOLDER / "__init__.py", FILES)

    def test_sizes_and_signs(self):
        for path in FILES:
            text = path.read_text()
            self.assertIsNone(re.search("[^ -~\n]", text), path)
            self.assertLessEqual(len(text.splitlines()), 400, path)
            self.assertLessEqual(max(len(line) for line in text.splitlines()), 120, path)
            for node in nodes(path, ast.FunctionDef):
                self.assertLessEqual(node.end_lineno - node.lineno + 1, 40, (path, node.name))

    def test_words_that_stand_nowhere(self):
        for path in FILES:
            self.assertFalse(WORDS_NOWHERE & set(re.findall(r"\w+", path.read_text())), path)

    def test_imports_are_the_packages_own(self):
        for path in FILES:
            for node in nodes(path, ast.ImportFrom):
                self.assertEqual(node.level, 0, path)
                self.assertTrue(node.module.startswith("nearwords."), path)

    def test_pythons_own_names(self):
        for path in FILES:
            used = {node.id for node in nodes(path, ast.Name)} | {node.arg for node in nodes(path, ast.arg)}
            self.assertFalse((used & set(dir(builtins))) - PYTHONS_OWN, path)

    def test_forms_out_of_use(self):
        for path in FILES:
            self.assertEqual([ast.unparse(node) for node in nodes(path, OUT_OF_USE)], [], path)
            for node in nodes(path, ast.Assign):
                self.assertEqual(len(node.targets), 1, path)
            for node in nodes(path, ast.Constant):
                self.assertNotIsInstance(node.value, (float, bytes, complex), path)


if __name__ == "__main__":
    unittest.main()
