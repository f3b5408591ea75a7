"""The form of the package: its files, their sizes, their imports, and where the interface stands."""

import ast
import inspect
import pathlib
import re
import unittest
import warnings

from signsets import classes, errors, ranges, tables, texts

FOLDER = pathlib.Path(errors.__file__).parent
ARGUMENTS = {
    ranges: {
        "members": ["size", "ranges"],
        "plain": ["size", "ranges"],
        "joined": ["size", "one", "other"],
        "common": ["size", "one", "other"],
        "less": ["size", "one", "other"],
        "others": ["size", "ranges"],
        "inside": ["size", "ranges", "number"],
    },
    texts: {
        "written": ["size", "ranges"],
        "read": ["size", "text"],
    },
    tables: {
        "table": ["size", "sets", "wide"],
        "look": ["size", "told", "which", "number"],
        "least": ["size", "sets"],
    },
    classes: {
        "classes": ["size", "sets"],
        "class_row": ["size", "sets"],
        "by_classes": ["size", "sets"],
    },
}
# Words that stand nowhere in the package, comments and strings included.
WORDS = """type typing typing_extensions enum Enum IntEnum StrEnum Flag IntFlag Generic Protocol ABC ABCMeta
    namedtuple NamedTuple TypedDict TYPE_CHECKING abstractmethod dataclass overload contextmanager""".split()
ERRORS = ["SetError", "BadSize", "BadSet", "BadNumber", "BadText"]


def sources():
    return {path.name: path.read_bytes() for path in sorted(FOLDER.glob("*.py"))}


class Interface(unittest.TestCase):
    def test_functions_of_each_module(self):
        for module, functions in ARGUMENTS.items():
            for name, arguments in functions.items():
                function = getattr(module, name)
                self.assertEqual(list(inspect.signature(function).parameters), arguments)
                self.assertEqual(function.__module__, module.__name__)

    def test_classes_of_errors(self):
        for name in ERRORS:
            self.assertEqual(getattr(errors, name).__module__, "signsets.errors")


class Files(unittest.TestCase):
    def test_the_folder_has_only_source_files(self):
        found = [path.name for path in FOLDER.iterdir() if path.name != "__pycache__"]
        self.assertEqual(sorted(found), sorted(sources()))
        self.assertIn("__init__.py", found)

    def test_characters_and_lengths(self):
        for name, source in sources().items():
            self.assertTrue(all(code == 10 or 32 <= code <= 126 for code in source), name)
            lines = source.decode("ascii").splitlines()
            self.assertLessEqual(len(lines), 399, name)
            self.assertLessEqual(max(len(line) for line in lines), 120, name)

    def test_words_that_stand_nowhere(self):
        for name, source in sources().items():
            found = re.findall("[A-Za-z_0-9]+", source.decode("ascii"))
            self.assertEqual([word for word in WORDS if word in found], [], name)

    def test_functions_are_short(self):
        for name, source in sources().items():
            for node in ast.walk(ast.parse(source)):
                if isinstance(node, ast.FunctionDef):
                    self.assertLessEqual(node.end_lineno - node.lineno + 1, 40, f"{name}: {node.name}")

    def test_imports_are_of_the_package(self):
        for name, source in sources().items():
            for node in ast.walk(ast.parse(source)):
                self.assertNotIsInstance(node, ast.Import, name)
                if isinstance(node, ast.ImportFrom):
                    self.assertEqual((node.level, node.module.split(".")[0]), (0, "signsets"), name)

    def test_python_warns_of_nothing(self):
        with warnings.catch_warnings():
            warnings.simplefilter("error")
            for name, source in sources().items():
                compile(source, name, "exec")


if __name__ == "__main__":
    unittest.main()
