"""The rules of ../shared/LANGUAGE.md that a look at each file alone can hold to."""

import ast
import builtins
import re
import unittest
from pathlib import Path

PACKAGE = Path(__file__).resolve().parent.parent / "butfewrows"
FILES = sorted(PACKAGE.glob("*.py"))
TREES = [ast.parse(path.read_text(encoding="utf-8"), path.name) for path in FILES]
LIBRARY = {"heapq", "math", "itertools", "collections"}
BUILTINS = set("""len range enumerate zip min max sum abs sorted reversed int str bool list tuple dict set isinstance
    ord repr any all divmod pow iter next map super property staticmethod classmethod Exception ValueError TypeError
    KeyError IndexError LookupError ZeroDivisionError NotImplementedError NotImplemented StopIteration""".split())
BARRED = set("""register mro elements open input law version_info with_traceback add_note typing typing_extensions enum
    Enum IntEnum StrEnum Flag IntFlag Generic Protocol ABC ABCMeta namedtuple NamedTuple TypedDict TYPE_CHECKING
    abstractmethod eval exec exit globals locals vars dir id help compile type""".split())
STATEMENTS_AT_TOP = (ast.ImportFrom, ast.FunctionDef, ast.ClassDef, ast.Assign)


class LanguageTests(unittest.TestCase):
    def test_folder_holds_files_alone(self):
        found = [path for path in sorted(PACKAGE.iterdir()) if path.name != "__pycache__"]
        self.assertEqual(found, FILES)
        self.assertIn(PACKAGE / "__init__.py", FILES)

    def test_sizes_and_characters(self):
        for path in FILES:
            with self.subTest(path.name):
                text = path.read_text(encoding="utf-8")
                self.assertLessEqual(len(text.splitlines()), 399)
                self.assertLessEqual(max(len(line) for line in text.splitlines()), 120)
                self.assertTrue(all(mark == "\n" or " " <= mark <= "~" for mark in text))

    def test_functions_are_short_and_have_no_decorators_but_property(self):
        for tree in TREES:
            for node in ast.walk(tree):
                if isinstance(node, ast.FunctionDef):
                    self.assertLessEqual(node.end_lineno - node.lineno + 1, 40, node.name)
                    self.assertTrue(all(mark.id == "property" for mark in node.decorator_list), node.name)

    def test_module_level(self):
        for tree in TREES:
            for node in tree.body:
                docstring = isinstance(node, ast.Expr) and isinstance(node.value, ast.Constant)
                self.assertTrue(docstring or isinstance(node, STATEMENTS_AT_TOP), ast.dump(node))

    def test_imports(self):
        for tree in TREES:
            for node in ast.walk(tree):
                self.assertNotIsInstance(node, ast.Import)
                if isinstance(node, ast.ImportFrom):
                    self.assertEqual(node.level, 0)
                    self.assertTrue(node.module.startswith("butfewrows.") or node.module in LIBRARY, node.module)
                    self.assertTrue(all(name.asname is None and name.name != "*" for name in node.names))

    def test_builtins_are_of_the_list_and_not_renamed(self):
        for tree in TREES:
            for node in ast.walk(tree):
                if isinstance(node, ast.Name) and node.id in vars(builtins):
                    self.assertIn(node.id, BUILTINS)
                    self.assertIsInstance(node.ctx, ast.Load)
                elif isinstance(node, (ast.FunctionDef, ast.ClassDef)):
                    self.assertNotIn(node.name, vars(builtins))
                elif isinstance(node, ast.arg):
                    self.assertNotIn(node.arg, vars(builtins))

    def test_no_floats_and_no_name_of_an_import_or_a_class_again(self):
        for tree in TREES:
            bound = {name.name for node in tree.body if isinstance(node, ast.ImportFrom) for name in node.names}
            bound |= {node.name for node in tree.body if isinstance(node, ast.ClassDef)}
            for node in ast.walk(tree):
                self.assertNotIsInstance(node, (ast.Div, ast.Global, ast.AsyncFunctionDef))
                if isinstance(node, ast.Constant):
                    self.assertNotIsInstance(node.value, float)
                if isinstance(node, ast.Name) and isinstance(node.ctx, ast.Store):
                    self.assertNotIn(node.id, bound)
                if isinstance(node, ast.arg):
                    self.assertNotIn(node.arg, bound)

    def test_no_two_files_import_from_each_other(self):
        needs = {path.stem: {node.module.split(".")[1] for node in tree.body if isinstance(node, ast.ImportFrom)
                             and node.module.startswith("butfewrows.")} for path, tree in zip(FILES, TREES)}
        while needs:
            free = [name for name in needs if not needs[name] & set(needs)]
            self.assertTrue(free, sorted(needs))
            for name in free:
                del needs[name]

    def test_names_are_imported_from_the_file_that_defines_them(self):
        defined = {path.stem: {node.name for node in tree.body if isinstance(node, (ast.FunctionDef, ast.ClassDef))}
                   | {node.targets[0].id for node in tree.body if isinstance(node, ast.Assign)}
                   for path, tree in zip(FILES, TREES)}
        for tree in TREES:
            for node in tree.body:
                if isinstance(node, ast.ImportFrom) and node.module.startswith("butfewrows."):
                    for name in node.names:
                        self.assertIn(name.name, defined[node.module.split(".")[1]])

    def test_no_barred_words_and_signs(self):
        for path, tree in zip(FILES, TREES):
            self.assertFalse(BARRED & set(re.findall("[A-Za-z_]+", ast.unparse(tree))), path.name)
            for node in ast.walk(tree):
                if isinstance(node, ast.Constant) and isinstance(node.value, str):
                    self.assertNotIn("%", node.value)

    def test_stars_in_calls_stand_before_names(self):
        for tree in TREES:
            for node in ast.walk(tree):
                for passed in node.args if isinstance(node, ast.Call) else ():
                    if isinstance(passed, ast.Starred):
                        self.assertIsInstance(passed.value, (ast.Name, ast.Attribute))

    def test_sums_and_the_like_take_lists(self):
        # A class of the package has an __eq__, so L7 bars generator expressions here.
        for tree in TREES:
            self.assertFalse([node for node in ast.walk(tree) if isinstance(node, ast.GeneratorExp)])


if __name__ == "__main__":
    unittest.main()
