"""What the interface and the rules of the language ask of the files themselves."""

import ast
import doctest
import re
import unittest
from pathlib import Path

PACKAGE = Path(__file__).resolve().parent.parent / "lostexits"
INTERFACE = {
    "errors.py": (
        "TraceError InvalidTrace InvalidCompletion InvalidFact InvalidFacts InvalidFrame InvalidMoment "
        "InvalidNumber InvalidEvent CapacityError NothingToUndo InvalidText Conflict"
    ),
    "traces.py": "is_trace frames",
    "completions.py": "is_completion stacks totals from_totals callers ends",
    "text.py": "to_text from_text",
    "facts.py": "is_fact holds",
    "solving.py": "most_returned fewest_returned merge_most merge_fewest",
    "derivations.py": "derivation is_derivation",
}
BARRED = (
    "type typing typing_extensions enum Enum IntEnum StrEnum Flag IntFlag Generic Protocol ABC ABCMeta "
    "namedtuple NamedTuple TypedDict TYPE_CHECKING abstractmethod"
)


def sources():
    for path in sorted(PACKAGE.glob("*.py")):
        yield path.name, path.read_text(encoding="utf-8")


class Files(unittest.TestCase):
    def test_each_name_is_defined_in_its_file(self):
        for name, text in sources():
            defined = {node.name for node in ast.parse(text).body if isinstance(node, (ast.FunctionDef, ast.ClassDef))}
            self.assertLessEqual(set(INTERFACE.get(name, "").split()), defined)
        self.assertLessEqual(set(INTERFACE), {name for name, text in sources()})

    def test_folder_holds_only_modules(self):
        others = [path.name for path in PACKAGE.iterdir() if path.suffix != ".py" and path.name != "__pycache__"]
        self.assertEqual(others, [])

    def test_characters_and_sizes(self):
        for name, text in sources():
            with self.subTest(name):
                self.assertIsNone(re.search(r"[^ -~\n]", text))
                self.assertLessEqual(len(text.splitlines()), 399)
                self.assertLessEqual(max(len(line) for line in text.splitlines()), 120)

    def test_functions_are_short(self):
        for name, text in sources():
            for node in ast.walk(ast.parse(text)):
                if isinstance(node, ast.FunctionDef):
                    self.assertLessEqual(node.end_lineno - node.lineno + 1, 40, f"{name}: {node.name}")

    def test_barred_words(self):
        for name, text in sources():
            self.assertEqual(set(re.findall(r"\w+", text)) & set(BARRED.split()), set(), name)

    def test_imports(self):
        for name, text in sources():
            for node in ast.walk(ast.parse(text)):
                self.assertNotIsInstance(node, ast.Import, name)
                if isinstance(node, ast.ImportFrom):
                    self.assertTrue(node.level == 0 and node.module.startswith("lostexits."), name)


class Readme(unittest.TestCase):
    def test_examples(self):
        told = doctest.testfile(str(PACKAGE.parent / "README.md"), module_relative=False)
        self.assertGreater(told.attempted, 0)
        self.assertEqual(told.failed, 0)


if __name__ == "__main__":
    unittest.main()
