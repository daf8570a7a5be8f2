"""The package keeps to the plain rules of its language that a test can see at a glance."""

import ast
import builtins
import pathlib
import re
import unittest

PACKAGE = pathlib.Path(__file__).resolve().parent.parent / "blockcarrier"
BARRED = re.compile(
    r"\b(type|typing|typing_extensions|enum|Enum|IntEnum|StrEnum|Flag|IntFlag|Generic|Protocol"
    r"|ABC|ABCMeta|namedtuple|NamedTuple|TypedDict|TYPE_CHECKING|abstractmethod)\b"
    r"|dataclass|overload|contextmanager")
INTERFACE = {
    "errors": ("CarrierError", "BadBoard", "BadFence", "NotSure", "BadCount", "BadText"),
    "running": ("story", "ended"),
    "plainly": ("plain_end", "sights"),
    "judging": ("amiss", "judged"),
    "fences": ("fenced", "fully", "spare", "fewest"),
    "texts": ("written", "read_board"),
}
ITERATED_AT_ONCE = ("range", "zip", "enumerate", "reversed")


def names_bound(tree):
    names = []
    for node in ast.walk(tree):
        if isinstance(node, (ast.FunctionDef, ast.ClassDef)):
            names.append(node.name)
        if isinstance(node, ast.Name) and isinstance(node.ctx, ast.Store):
            names.append(node.id)
        if isinstance(node, ast.arg):
            names.append(node.arg)
    return names


class Language(unittest.TestCase):
    def setUp(self):
        self.texts = {path: path.read_text("utf-8") for path in sorted(PACKAGE.glob("*.py"))}
        self.trees = {path: ast.parse(text) for path, text in self.texts.items()}

    def test_the_folder_holds_python_files_alone(self):
        for path in PACKAGE.iterdir():
            self.assertRegex(path.name, r"^[a-z0-9_]+\.py$")
        self.assertIn(PACKAGE / "__init__.py", self.texts)

    def test_signs_and_sizes(self):
        for path, text in self.texts.items():
            self.assertRegex(text, r"\A[ -~\n]*\Z", path)
            self.assertLess(len(text.splitlines()), 400, path)
            for row in text.splitlines():
                self.assertLessEqual(len(row), 120, path)

    def test_barred_words(self):
        for path, text in self.texts.items():
            self.assertIsNone(BARRED.search(text), path)

    def test_functions_are_small(self):
        for path, tree in self.trees.items():
            for node in ast.walk(tree):
                if isinstance(node, ast.FunctionDef):
                    self.assertLessEqual(node.end_lineno - node.lineno, 39, (path, node.name))

    def test_imports_are_of_the_package_by_name(self):
        for path, tree in self.trees.items():
            for node in ast.walk(tree):
                self.assertNotIsInstance(node, ast.Import, path)
                if isinstance(node, ast.ImportFrom):
                    self.assertEqual((node.level, node.module.split(".")[0]), (0, "blockcarrier"))

    def test_ranges_and_their_kin_are_not_stored(self):
        for path, tree in self.trees.items():
            for node in ast.walk(tree):
                if isinstance(node, (ast.Assign, ast.Return)) and isinstance(node.value, ast.Call):
                    called = node.value.func
                    name = called.attr if isinstance(called, ast.Attribute) else called.id
                    self.assertNotIn(name, (*ITERATED_AT_ONCE, "items", "keys", "values"), path)

    def test_names_are_plain_and_no_builtins(self):
        for path, tree in self.trees.items():
            for name in names_bound(tree):
                self.assertRegex(name, r"^([A-Za-z][A-Za-z0-9_]*|__init__)$", path)
                self.assertNotIn(name, dir(builtins), path)

    def test_captured_names_are_nothing_else(self):
        for path, tree in self.trees.items():
            for node in ast.walk(tree):
                if isinstance(node, ast.FunctionDef):
                    captured = [part.name for part in ast.walk(node)
                                if isinstance(part, ast.MatchAs) and part.name]
                    others = [part.id for part in ast.walk(node)
                              if isinstance(part, ast.Name) and isinstance(part.ctx, ast.Store)]
                    others += [part.arg for part in ast.walk(node) if isinstance(part, ast.arg)]
                    self.assertEqual([name for name in captured if name in others], [], path)

    def test_no_name_is_a_method_and_an_attribute(self):
        methods = set()
        attributes = set()
        for tree in self.trees.values():
            for node in ast.walk(tree):
                if isinstance(node, ast.ClassDef):
                    methods |= {part.name for part in node.body
                                if isinstance(part, ast.FunctionDef)}
                if isinstance(node, ast.Attribute) and isinstance(node.ctx, ast.Store):
                    attributes.add(node.attr)
        self.assertEqual(methods & attributes, set())

    def test_names_are_imported_from_where_they_are_defined(self):
        for path, tree in self.trees.items():
            for node in tree.body:
                if isinstance(node, ast.ImportFrom):
                    source = self.trees[PACKAGE / f"{node.module.split('.')[1]}.py"]
                    bound = [part.name for part in source.body if hasattr(part, "name")]
                    bound += [part.targets[0].id for part in source.body
                              if isinstance(part, ast.Assign)]
                    for alias in node.names:
                        self.assertIn(alias.name, bound, path)

    def test_the_interface_is_defined_where_it_is_listed(self):
        for name, listed in INTERFACE.items():
            body = self.trees[PACKAGE / f"{name}.py"].body
            defined = [node.name for node in body
                       if isinstance(node, (ast.FunctionDef, ast.ClassDef))]
            for wanted in listed:
                self.assertIn(wanted, defined)


if __name__ == "__main__":
    unittest.main()
