"""The rules of form that a reader overlooks most easily: signs, sizes, words that are not used, imports."""

import ast
import pathlib
import re
import unittest

PACKAGE = pathlib.Path(__file__).resolve().parent.parent / "numberskept"
WORDS = ("type typing typing_extensions enum Enum IntEnum StrEnum Flag IntFlag Generic Protocol ABC ABCMeta namedtuple "
         "NamedTuple TypedDict TYPE_CHECKING abstractmethod").split()
WITHIN_WORDS = ("dataclass", "overload", "contextmanager")


def sources():
    for path in sorted(PACKAGE.rglob("*.py")):
        yield path.name, path.read_text(encoding="utf-8")


class Form(unittest.TestCase):
    def test_only_source_files_lie_in_the_package(self):
        names = [path.name for path in PACKAGE.iterdir() if path.name != "__pycache__"]
        self.assertIn("__init__.py", names)
        for name in names:
            self.assertRegex(name, r"^[a-z0-9_]+\.py$")

    def test_signs_and_lengths(self):
        for name, text in sources():
            self.assertRegex(text, r"^[\n -~]*\Z", name)
            self.assertLess(len(text.splitlines()), 400, name)
            for line in text.splitlines():
                self.assertLessEqual(len(line), 120, name)

    def test_functions_have_at_most_40_lines(self):
        for name, text in sources():
            for node in ast.walk(ast.parse(text)):
                if isinstance(node, ast.FunctionDef):
                    self.assertLessEqual(node.end_lineno - node.lineno + 1, 40, f"{name}: {node.name}")

    def test_words_that_are_not_used(self):
        for name, text in sources():
            for word in re.findall(r"\w+", text):
                self.assertNotIn(word, WORDS, name)
                for part in WITHIN_WORDS:
                    self.assertNotIn(part, word, name)

    def test_only_the_package_itself_is_imported(self):
        for name, text in sources():
            for node in ast.walk(ast.parse(text)):
                self.assertNotIsInstance(node, ast.Import, name)
                if isinstance(node, ast.ImportFrom):
                    self.assertTrue(node.level == 0 and node.module.startswith("numberskept."), name)


if __name__ == "__main__":
    unittest.main()
