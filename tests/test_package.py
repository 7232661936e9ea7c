"""What the interface and the rules of the language ask of the files themselves."""

import ast
import builtins
import doctest
import re
import unittest
from pathlib import Path

PACKAGE = Path(__file__).resolve().parent.parent / "lostexits"
INTERFACE = {
    "errors.py": (
        "TraceError InvalidTrace InvalidCompletion InvalidFact InvalidFacts InvalidFrame InvalidMoment "
        "InvalidNumber InvalidEvent CapacityError NothingToUndo InvalidText Conflict"
    ),
    "traces.py": "is_trace frames",
    "completions.py": "is_completion stacks totals from_totals callers ends",
    "text.py": "to_text from_text",
    "facts.py": "is_fact holds",
    "solving.py": "most_returned fewest_returned merge_most merge_fewest",
    "derivations.py": "derivation is_derivation",
    "queries.py": "status possible_depths possible_ends possible_callers certain_frames",
    "counting.py": "count completion_at number_of best_sample",
    "conflicts.py": "minimal_conflicts fewest_dropped",
    "monitor.py": "Monitor",
}
ARGUMENTS = {
    "is_trace": "value",
    "frames": "trace",
    "is_completion": "trace value",
    "stacks": "trace completion",
    "totals": "trace completion",
    "from_totals": "trace value",
    "callers": "trace completion",
    "ends": "trace completion",
    "to_text": "trace completion",
    "from_text": "text",
    "is_fact": "trace value",
    "holds": "trace completion fact",
    "most_returned": "trace facts",
    "fewest_returned": "trace facts",
    "merge_most": "trace first second",
    "merge_fewest": "trace first second",
    "derivation": "trace facts",
    "is_derivation": "trace facts value",
    "status": "trace facts fact",
    "possible_depths": "trace facts moment",
    "possible_ends": "trace facts frame",
    "possible_callers": "trace facts frame",
    "certain_frames": "trace facts moment",
    "count": "trace facts",
    "completion_at": "trace facts number",
    "number_of": "trace facts completion",
    "best_sample": "trace facts",
    "minimal_conflicts": "trace facts",
    "fewest_dropped": "trace facts",
}
METHODS = {
    "__init__": "self",
    "append": "self event",
    "observe": "self fact",
    "undo": "self",
    "trace": "self",
    "facts": "self",
    "completion": "self",
    "status": "self fact",
    "__len__": "self",
    "__eq__": "self other",
}
BARRED = (
    "type typing typing_extensions enum Enum IntEnum StrEnum Flag IntFlag Generic Protocol ABC ABCMeta "
    "namedtuple NamedTuple TypedDict TYPE_CHECKING abstractmethod"
)
BUILTINS = (
    "len range enumerate zip min max sum abs sorted reversed int str bool bytes list tuple dict set isinstance ord "
    "repr any all divmod"
)
BUILTIN_METHODS = (
    "append clear copy count endswith extend find get index insert isalnum isalpha isdigit islower isspace isupper "
    "items join keys ljust lower lstrip partition pop remove replace reverse rfind rjust rpartition rsplit rstrip "
    "setdefault split splitlines startswith strip update upper values zfill bit_length isascii"
)


def sources():
    for path in sorted(PACKAGE.glob("*.py")):
        yield path.name, path.read_text(encoding="utf-8")


class Files(unittest.TestCase):
    def test_each_name_is_defined_in_its_file(self):
        for name, text in sources():
            defined = {node.name for node in ast.parse(text).body if isinstance(node, (ast.FunctionDef, ast.ClassDef))}
            self.assertLessEqual(set(INTERFACE.get(name, "").split()), defined)
        self.assertLessEqual(set(INTERFACE), {name for name, text in sources()})

    def test_arguments_of_each_function(self):
        told = {}
        for name, text in sources():
            for node in ast.parse(text).body:
                if isinstance(node, ast.FunctionDef) and node.name in INTERFACE.get(name, "").split():
                    told[node.name] = ast.unparse(node.args).replace(",", "")
        self.assertEqual(told, ARGUMENTS)

    def test_methods_of_monitor_stand_in_the_class(self):
        tree = ast.parse((PACKAGE / "monitor.py").read_text(encoding="utf-8"))
        body = next(node for node in tree.body if isinstance(node, ast.ClassDef) and node.name == "Monitor").body
        told = {node.name: ast.unparse(node.args).replace(",", "") for node in body if isinstance(node, ast.FunctionDef)}
        self.assertEqual({name: told.get(name) for name in METHODS}, METHODS)

    def test_folder_holds_only_modules(self):
        others = [path.name for path in PACKAGE.iterdir() if path.suffix != ".py" and path.name != "__pycache__"]
        self.assertEqual(others, [])

    def test_characters_and_sizes(self):
        for name, text in sources():
            with self.subTest(name):
                self.assertIsNone(re.search(r"[^ -~\n]", text))
                self.assertLessEqual(len(text.splitlines()), 399)
                self.assertLessEqual(max(len(line) for line in text.splitlines()), 120)

    def test_functions_are_short(self):
        for name, text in sources():
            for node in ast.walk(ast.parse(text)):
                if isinstance(node, ast.FunctionDef):
                    self.assertLessEqual(node.end_lineno - node.lineno + 1, 40, f"{name}: {node.name}")

    def test_barred_words(self):
        for name, text in sources():
            self.assertEqual(set(re.findall(r"\w+", text)) & set(BARRED.split()), set(), name)

    def test_imports(self):
        for name, text in sources():
            for node in ast.walk(ast.parse(text)):
                self.assertNotIsInstance(node, ast.Import, name)
                if isinstance(node, ast.ImportFrom):
                    self.assertTrue(node.level == 0 and node.module.startswith("lostexits."), name)


class Language(unittest.TestCase):
    """Rules of the language that can be seen in the tree of a file, for the parts of Python that are used here."""

    def trees(self):
        for name, text in sources():
            yield name, ast.parse(text)

    def test_only_statements_and_expressions_that_are_needed(self):
        barred = (
            *(ast.GeneratorExp, ast.SetComp, ast.Set, ast.Lambda, ast.Global, ast.Nonlocal, ast.Starred, ast.Yield),
            *(ast.AsyncFunctionDef, ast.Await, ast.With, ast.Try, ast.Match, ast.NamedExpr, ast.Div, ast.Pow, ast.Mod),
        )
        for name, tree in self.trees():
            for node in ast.walk(tree):
                self.assertNotIsInstance(node, barred, f"{name}: {getattr(node, 'lineno', None)}")

    def test_names_are_plain(self):
        for name, tree in self.trees():
            for node in ast.walk(tree):
                for word in [getattr(node, part, None) for part in ("id", "arg", "attr", "name")]:
                    if isinstance(word, str) and word not in ("__init__", "__len__", "__eq__"):
                        self.assertRegex(word, r"^[A-Za-z][A-Za-z0-9_]*$", name)

    def test_methods_and_attributes_have_different_names(self):
        methods, attributes = set(), set()
        for name, tree in self.trees():
            for node in ast.walk(tree):
                if isinstance(node, ast.ClassDef):
                    methods |= {part.name for part in node.body if isinstance(part, ast.FunctionDef)}
                if isinstance(node, ast.Attribute) and isinstance(node.ctx, ast.Store):
                    attributes.add(node.attr)
        self.assertEqual(methods & attributes, set())

    def test_builtins_and_their_methods(self):
        for name, tree in self.trees():
            known = set(BUILTINS.split())
            methods = set(BUILTIN_METHODS.split())
            for other, part in self.trees():
                for node in ast.walk(part):
                    if isinstance(node, (ast.FunctionDef, ast.ClassDef)):
                        known.add(node.name)
                        methods.add(node.name)
            for node in ast.walk(tree):
                if isinstance(node, ast.Call) and isinstance(node.func, ast.Name):
                    # A function from a table is given a name first.
                    self.assertIn(node.func.id, known | {"check", "rule"}, name)
                if isinstance(node, ast.Call) and isinstance(node.func, ast.Attribute):
                    self.assertIn(node.func.attr, methods, name)

    def test_no_variable_has_the_name_of_an_import_or_a_builtin(self):
        for name, tree in self.trees():
            taken = set(dir(builtins))
            for node in ast.walk(tree):
                if isinstance(node, ast.ImportFrom):
                    taken |= {alias.asname or alias.name for alias in node.names}
                if isinstance(node, ast.ClassDef):
                    taken.add(node.name)
            for node in ast.walk(tree):
                if isinstance(node, ast.arg):
                    self.assertNotIn(node.arg, taken, name)
                if isinstance(node, ast.Name) and isinstance(node.ctx, ast.Store):
                    self.assertNotIn(node.id, taken, name)
                if isinstance(node, ast.FunctionDef):
                    self.assertNotIn(node.name, set(dir(builtins)), name)

    def test_is_stands_beside_none_only(self):
        for name, tree in self.trees():
            for node in ast.walk(tree):
                if isinstance(node, ast.Compare) and isinstance(node.ops[0], (ast.Is, ast.IsNot)):
                    self.assertIn(ast.unparse(node.comparators[0]), ("None", "True", "False"), name)

    def test_no_two_files_import_from_each_other(self):
        imports = {}
        for name, tree in self.trees():
            modules = [node.module for node in ast.walk(tree) if isinstance(node, ast.ImportFrom)]
            imports[name] = {module.removeprefix("lostexits.") + ".py" for module in modules}
        while imports:
            free = [name for name in imports if not imports[name] & set(imports)]
            self.assertNotEqual(free, [], imports)
            imports = {name: imports[name] for name in imports if name not in free}


class Readme(unittest.TestCase):
    def test_examples(self):
        told = doctest.testfile(str(PACKAGE.parent / "README.md"), module_relative=False)
        self.assertGreater(told.attempted, 0)
        self.assertEqual(told.failed, 0)


if __name__ == "__main__":
    unittest.main()
