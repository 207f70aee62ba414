"""Rules of the language that can be read off the package's files: L1, L2, L6 to L8, L10, L12, L14 to L18, L20."""

import ast
import builtins
import pathlib
import re
import unittest

PACKAGE = pathlib.Path(__file__).resolve().parent.parent / "thirdpoint"
WORDS = re.compile(r"\b(type|typing|typing_extensions|enum|Enum|IntEnum|StrEnum|Flag|IntFlag|Generic|Protocol|ABC|"
                   r"ABCMeta|namedtuple|NamedTuple|TypedDict|TYPE_CHECKING|abstractmethod)\b|"
                   r"dataclass|overload|contextmanager")
OWN_NAMES = """len range enumerate zip min max sum abs sorted reversed int str bool bytes list tuple dict set frozenset
    isinstance ord repr any all divmod Exception ValueError TypeError KeyError IndexError LookupError ZeroDivisionError
    ArithmeticError OverflowError RuntimeError NotImplementedError AttributeError StopIteration""".split()
NO_NODES = (ast.GeneratorExp, ast.NamedExpr, ast.With, ast.Yield, ast.YieldFrom, ast.Global, ast.Nonlocal, ast.Match,
            ast.Await, ast.AsyncFunctionDef, ast.Div)
LISTED = ("__init__", "__eq__", "__repr__", "__str__", "__len__")


def files():
    """The package's files, with their texts."""
    return [(path, path.read_text(encoding="utf-8")) for path in sorted(PACKAGE.iterdir()) if path.is_file()]


class Files(unittest.TestCase):
    def test_nothing_but_python_files_with_plain_names(self):
        self.assertTrue((PACKAGE / "__init__.py").is_file())
        for path in PACKAGE.iterdir():
            if path.name != "__pycache__":
                self.assertRegex(path.name, r"\A(__init__|[a-z][a-z0-9_]*)\.py\Z")

    def test_signs_and_sizes(self):
        for path, text in files():
            lines = text.split("\n")
            self.assertRegex(text, r"\A[ -~\n]*\Z", path)
            self.assertLessEqual(len(lines), 400, path)
            self.assertLessEqual(max(len(line) for line in lines), 120, path)

    def test_functions_are_short(self):
        for path, text in files():
            for node in ast.walk(ast.parse(text)):
                if isinstance(node, ast.FunctionDef):
                    self.assertLessEqual(node.end_lineno - node.lineno + 1, 40, (path, node.name))

    def test_words_that_stand_nowhere(self):
        for path, text in files():
            self.assertIsNone(WORDS.search(text), path)

    def test_imports_are_of_the_package_alone(self):
        for path, text in files():
            for node in ast.walk(ast.parse(text)):
                self.assertNotIsInstance(node, ast.Import, path)
                if isinstance(node, ast.ImportFrom):
                    self.assertEqual(node.level, 0, path)
                    self.assertRegex(node.module, r"\Athirdpoint\.[a-z]+\Z")

    def test_plain_names(self):
        for path, text in files():
            for node in ast.walk(ast.parse(text)):
                name = getattr(node, "name", None) or getattr(node, "id", None) or getattr(node, "arg", None) \
                    or getattr(node, "attr", None)
                if isinstance(name, str) and name not in LISTED:
                    self.assertFalse(name.startswith("_"), (path, name))

    def test_parts_of_python_that_are_not_used(self):
        for path, text in files():
            for node in ast.walk(ast.parse(text)):
                self.assertNotIsInstance(node, NO_NODES, (path, getattr(node, "lineno", None)))
                if isinstance(node, (ast.For, ast.While)):
                    self.assertEqual(node.orelse, [], path)
                if isinstance(node, ast.Constant):
                    self.assertNotIsInstance(node.value, float, path)
                if isinstance(node, ast.FunctionDef):
                    self.assertEqual((node.args.vararg, node.args.kwarg, node.decorator_list), (None, None, []), path)
                if isinstance(node, ast.Compare):
                    for sign, thing in zip(node.ops, node.comparators):
                        if isinstance(sign, (ast.Is, ast.IsNot)):
                            self.assertIsInstance(thing, ast.Constant, path)

    def test_names_of_pythons_own(self):
        for path, text in files():
            for node in ast.walk(ast.parse(text)):
                if isinstance(node, ast.Name) and hasattr(builtins, node.id):
                    self.assertIn(node.id, OWN_NAMES, path)

    def test_each_name_once(self):
        for path, text in files():
            tree = ast.parse(text)
            tops = [alias.name for node in tree.body if isinstance(node, ast.ImportFrom) for alias in node.names]
            tops += [node.name for node in tree.body if isinstance(node, (ast.FunctionDef, ast.ClassDef))]
            tops += [name.id for node in tree.body if isinstance(node, ast.Assign) for name in node.targets]
            self.assertEqual(len(tops), len(set(tops)), path)
            for node in [node for top in tree.body if isinstance(top, (ast.FunctionDef, ast.ClassDef))
                         for node in ast.walk(top)]:
                name = getattr(node, "arg", None)
                if isinstance(node, ast.Name) and isinstance(node.ctx, ast.Store):
                    name = node.id
                if isinstance(node, ast.arg) or isinstance(node, ast.Name) and name is not None:
                    self.assertFalse(name in tops or hasattr(builtins, name), (path, name))

    def test_no_name_is_a_method_and_a_value(self):
        methods, values = set(), set()
        for path, text in files():
            for node in ast.walk(ast.parse(text)):
                if isinstance(node, ast.ClassDef):
                    methods |= {part.name for part in node.body if isinstance(part, ast.FunctionDef)}
                if isinstance(node, ast.Attribute) and isinstance(node.ctx, ast.Store):
                    values.add(node.attr)
        self.assertEqual(methods & values, set())
        self.assertTrue(methods and values)


if __name__ == "__main__":
    unittest.main()
