"""The rules of the language that can be seen in the package's text alone."""

import ast
import builtins
import pathlib
import re
import unittest

PACKAGE = pathlib.Path(__file__).resolve().parent.parent / "halfwhole"
FILES = sorted(path for path in PACKAGE.rglob("*") if "__pycache__" not in path.parts)
ALLOWED = (
    "len range enumerate zip min max sum abs sorted reversed int str bool list tuple dict set frozenset isinstance "
    "ord repr any all divmod ValueError"
).split()
WORDS = (
    "type typing typing_extensions enum Enum IntEnum StrEnum Flag IntFlag Generic Protocol ABC ABCMeta namedtuple "
    "NamedTuple TypedDict TYPE_CHECKING abstractmethod register mro elements open input"
).split()


class TextTest(unittest.TestCase):
    def test_files_and_sizes(self):
        for path in FILES:
            self.assertTrue(path.is_file() and path.suffix == ".py", path)
            text = path.read_text(encoding="utf-8")
            self.assertEqual(re.findall(r"[^ -~\n]", text), [], path)
            lines = text.splitlines()
            self.assertLessEqual(len(lines), 400, path)
            self.assertLessEqual(max(map(len, lines)), 120, path)

    def test_words_that_stand_nowhere(self):
        for path in FILES:
            found = set(re.findall(r"[A-Za-z_0-9]+", path.read_text()))
            self.assertEqual(found & set(WORDS), set(), path)

    def test_functions_and_imports(self):
        for path in FILES:
            for node in ast.walk(ast.parse(path.read_text())):
                if isinstance(node, ast.FunctionDef):
                    self.assertLessEqual(node.end_lineno - node.lineno + 1, 40, node.name)
                if isinstance(node, ast.ImportFrom):
                    self.assertTrue(node.module.startswith("halfwhole."), node.module)
                self.assertNotIsInstance(node, ast.Import)

    def test_names_are_the_programs_own_or_allowed(self):
        for path in FILES:
            tree = ast.parse(path.read_text())
            names = [node for node in ast.walk(tree) if isinstance(node, ast.Name)]
            bound = {node.id for node in names if isinstance(node.ctx, ast.Store)}
            bound |= {node.name for node in ast.walk(tree) if isinstance(node, (ast.FunctionDef, ast.ClassDef))}
            bound |= {node.arg for node in ast.walk(tree) if isinstance(node, ast.arg)}
            bound |= {name.name for node in ast.walk(tree) if isinstance(node, ast.ImportFrom) for name in node.names}
            used = {node.id for node in names}
            self.assertEqual(sorted(used - bound - set(ALLOWED)), [], path)
            self.assertEqual(sorted(bound & set(dir(builtins))), [], path)


if __name__ == "__main__":
    unittest.main()
