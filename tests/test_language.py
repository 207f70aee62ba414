"""Rules of the language that can be read off the package's files: L1, L2, L10, L12, L14, L16, L17."""

import ast
import pathlib
import re
import unittest

PACKAGE = pathlib.Path(__file__).resolve().parent.parent / "thirdpoint"
WORDS = re.compile(r"\b(type|typing|typing_extensions|enum|Enum|IntEnum|StrEnum|Flag|IntFlag|Generic|Protocol|ABC|"
                   r"ABCMeta|namedtuple|NamedTuple|TypedDict|TYPE_CHECKING|abstractmethod)\b|"
                   r"dataclass|overload|contextmanager")
LISTED = ("__init__", "__eq__", "__repr__", "__str__", "__len__")


def files():
    """The package's files, with their texts."""
    return [(path, path.read_text(encoding="utf-8")) for path in sorted(PACKAGE.iterdir()) if path.is_file()]


class Files(unittest.TestCase):
    def test_nothing_but_python_files_with_plain_names(self):
        self.assertTrue((PACKAGE / "__init__.py").is_file())
        for path in PACKAGE.iterdir():
            if path.name != "__pycache__":
                self.assertRegex(path.name, r"\A(__init__|[a-z][a-z0-9_]*)\.py\Z")

    def test_signs_and_sizes(self):
        for path, text in files():
            lines = text.split("\n")
            self.assertRegex(text, r"\A[ -~\n]*\Z", path)
            self.assertLessEqual(len(lines), 400, path)
            self.assertLessEqual(max(len(line) for line in lines), 120, path)

    def test_functions_are_short(self):
        for path, text in files():
            for node in ast.walk(ast.parse(text)):
                if isinstance(node, ast.FunctionDef):
                    self.assertLessEqual(node.end_lineno - node.lineno + 1, 40, (path, node.name))

    def test_words_that_stand_nowhere(self):
        for path, text in files():
            self.assertIsNone(WORDS.search(text), path)

    def test_imports_are_of_the_package_alone(self):
        for path, text in files():
            for node in ast.walk(ast.parse(text)):
                self.assertNotIsInstance(node, ast.Import, path)
                if isinstance(node, ast.ImportFrom):
                    self.assertEqual(node.level, 0, path)
                    self.assertRegex(node.module, r"\Athirdpoint\.[a-z]+\Z")

    def test_plain_names(self):
        for path, text in files():
            for node in ast.walk(ast.parse(text)):
                name = getattr(node, "name", None) or getattr(node, "id", None) or getattr(node, "arg", None) \
                    or getattr(node, "attr", None)
                if isinstance(name, str) and name not in LISTED:
                    self.assertFalse(name.startswith("_"), (path, name))


if __name__ == "__main__":
    unittest.main()
