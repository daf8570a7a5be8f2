"""The package keeps to the plain rules of its language that a test can see at a glance."""

import ast
import pathlib
import re
import unittest

PACKAGE = pathlib.Path(__file__).resolve().parent.parent / "blockcarrier"
BARRED = re.compile(
    r"\b(type|typing|typing_extensions|enum|Enum|IntEnum|StrEnum|Flag|IntFlag|Generic|Protocol"
    r"|ABC|ABCMeta|namedtuple|NamedTuple|TypedDict|TYPE_CHECKING|abstractmethod)\b"
    r"|dataclass|overload|contextmanager")
INTERFACE = {
    "errors": ("CarrierError", "BadBoard", "BadFence", "NotSure", "BadCount", "BadText"),
    "running": ("story", "ended"),
    "plainly": ("plain_end", "sights"),
}


class Language(unittest.TestCase):
    def setUp(self):
        self.texts = {path: path.read_text("utf-8") for path in sorted(PACKAGE.glob("*.py"))}
        self.trees = {path: ast.parse(text) for path, text in self.texts.items()}

    def test_the_folder_holds_python_files_alone(self):
        for path in PACKAGE.iterdir():
            self.assertRegex(path.name, r"^[a-z0-9_]+\.py$")
        self.assertIn(PACKAGE / "__init__.py", self.texts)

    def test_signs_and_sizes(self):
        for path, text in self.texts.items():
            self.assertRegex(text, r"\A[ -~\n]*\Z", path)
            self.assertLess(len(text.splitlines()), 400, path)
            for row in text.splitlines():
                self.assertLessEqual(len(row), 120, path)

    def test_barred_words(self):
        for path, text in self.texts.items():
            self.assertIsNone(BARRED.search(text), path)

    def test_functions_are_small(self):
        for path, tree in self.trees.items():
            for node in ast.walk(tree):
                if isinstance(node, ast.FunctionDef):
                    self.assertLessEqual(node.end_lineno - node.lineno, 39, (path, node.name))

    def test_imports_are_of_the_package_by_name(self):
        for path, tree in self.trees.items():
            for node in ast.walk(tree):
                self.assertNotIsInstance(node, ast.Import, path)
                if isinstance(node, ast.ImportFrom):
                    self.assertEqual((node.level, node.module.split(".")[0]), (0, "blockcarrier"))

    def test_the_interface_is_defined_where_it_is_listed(self):
        for name, listed in INTERFACE.items():
            body = self.trees[PACKAGE / f"{name}.py"].body
            defined = [node.name for node in body
                       if isinstance(node, (ast.FunctionDef, ast.ClassDef))]
            for wanted in listed:
                self.assertIn(wanted, defined)


if __name__ == "__main__":
    unittest.main()
