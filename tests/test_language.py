"""The rules of the language that the files of the package keep to, as far as a short test can see them."""

import ast
import builtins
import pathlib
import unittest

FOLDER = pathlib.Path(__file__).resolve().parent.parent / "modulehall"
FILES = sorted(FOLDER.glob("*.py"))
TREES = {path.stem: ast.parse(path.read_text()) for path in FILES}

WORDS = (
    "type typing typing_extensions enum Enum IntEnum StrEnum Flag IntFlag Generic Protocol ABC ABCMeta namedtuple "
    "NamedTuple TypedDict TYPE_CHECKING abstractmethod"
).split()
BUILTINS = (
    "len range enumerate zip min max sum abs sorted reversed int str bool bytes list tuple dict set frozenset isinstance "
    "ord repr any all divmod Exception ValueError TypeError KeyError IndexError LookupError ZeroDivisionError "
    "ArithmeticError OverflowError RuntimeError NotImplementedError NotImplemented iter next super property staticmethod "
    "classmethod"
).split()
METHODS = (
    "append clear copy count endswith extend find get index insert isalnum isalpha isdigit islower isspace isupper items "
    "join keys ljust lower lstrip partition pop remove replace reverse rfind rjust rpartition rsplit rstrip setdefault "
    "split splitlines startswith strip update upper values zfill bit_length title capitalize swapcase casefold center "
    "expandtabs removeprefix removesuffix rindex isascii isdecimal isnumeric istitle isidentifier isprintable add discard "
    "__init__"
).split()
BARRED = (
    ast.Global, ast.AsyncFunctionDef, ast.AsyncFor, ast.AsyncWith, ast.Await, ast.Div, ast.Import, ast.AnnAssign,
)


def nodes(*kinds):
    for stem, tree in TREES.items():
        for node in ast.walk(tree):
            if isinstance(node, kinds):
                yield stem, node


def defined(tree):
    """The names that the module level of a file defines itself."""
    named = [each.name for each in tree.body if isinstance(each, (ast.FunctionDef, ast.ClassDef))]
    return named + [target.id for each in tree.body if isinstance(each, ast.Assign) for target in each.targets]


def imported(tree):
    return [(each.module, each.names) for each in tree.body if isinstance(each, ast.ImportFrom)]


def own_methods():
    return {each.name for _, node in nodes(ast.ClassDef) for each in node.body if isinstance(each, ast.FunctionDef)}


class Language(unittest.TestCase):
    def test_the_folder_contains_only_python_files(self):
        for path in FOLDER.iterdir():
            if path.name != "__pycache__":
                self.assertRegex(path.name, r"^(__init__|__main__|[a-z][a-z0-9_]*)\.py$")
        self.assertIn("__init__", TREES)

    def test_sizes_and_characters(self):
        for path in FILES:
            text = path.read_text()
            self.assertLessEqual(len(text.splitlines()), 400, path.name)
            self.assertLessEqual(max([len(line) for line in text.splitlines()]), 120, path.name)
            self.assertTrue(all(each == "\n" or " " <= each <= "~" for each in text), path.name)
            self.assertNotRegex(text, r"\b(" + "|".join(WORDS) + r")\b")
            self.assertNotRegex(text, "dataclass|overload|contextmanager")
            self.assertNotRegex(text, r"\\[^nt\\'\"]")
        for stem, node in nodes(ast.FunctionDef):
            self.assertLessEqual(node.end_lineno - node.lineno + 1, 40, (stem, node.name))

    def test_imports_name_the_file_that_defines_the_name(self):
        for stem, tree in TREES.items():
            for module, names in imported(tree):
                package, _, file = module.partition(".")
                self.assertEqual(package, "modulehall", stem)
                for name in names:
                    self.assertIn(name.name, defined(TREES[file]), (stem, module))
                    self.assertIsNone(name.asname, (stem, module))

    def test_what_is_imported_is_used(self):
        for stem, tree in TREES.items():
            used = {node.id for node in ast.walk(tree) if isinstance(node, ast.Name)}
            for module, names in imported(tree):
                self.assertEqual([name.name for name in names if name.name not in used], [], (stem, module))

    def test_imports_have_no_ring(self):
        left = {stem: {module.partition(".")[2] for module, _ in imported(tree)} for stem, tree in TREES.items()}
        while left:
            free = [stem for stem in left if not left[stem] & set(left)]
            self.assertTrue(free, left)
            for stem in free:
                del left[stem]

    def test_the_module_level(self):
        for stem, tree in TREES.items():
            self.assertIsNotNone(ast.get_docstring(tree), stem)
            for each in tree.body[1:]:
                self.assertIsInstance(each, (ast.ImportFrom, ast.FunctionDef, ast.ClassDef, ast.Assign), stem)
            names = defined(tree) + [name.name for _, each in imported(tree) for name in each]
            self.assertEqual(len(names), len(set(names)), stem)

    def test_barred_statements_and_values(self):
        for stem, node in nodes(*BARRED):
            self.fail((stem, node.lineno, node))
        for stem, node in nodes(ast.Constant):
            self.assertNotIsInstance(node.value, (float, complex))
            self.assertFalse(isinstance(node.value, str) and "\x25" in node.value, (stem, node.lineno))

    def test_identity_is_asked_of_none_true_and_false_only(self):
        for stem, node in nodes(ast.Compare):
            for sign, right in zip(node.ops, node.comparators):
                if isinstance(sign, (ast.Is, ast.IsNot)):
                    self.assertIsInstance(right, ast.Constant, (stem, node.lineno))
                    self.assertTrue(right.value is None or isinstance(right.value, bool), (stem, node.lineno))

    def test_builtins(self):
        for stem, node in nodes(ast.Name):
            if node.id in dir(builtins):
                self.assertIn(node.id, BUILTINS, (stem, node.lineno))
                self.assertIsInstance(node.ctx, ast.Load, (stem, node.lineno))

    def test_names_are_plain_and_have_one_meaning(self):
        for stem, tree in TREES.items():
            taken = [name.name for _, each in imported(tree) for name in each]
            taken += [each.name for each in tree.body if isinstance(each, ast.ClassDef)] + dir(builtins)
            for node in ast.walk(tree):
                if isinstance(node, ast.arg):
                    self.assertNotIn(node.arg, taken, (stem, node.lineno))
                    self.assertRegex(node.arg, "^[A-Za-z]")
                if isinstance(node, ast.Name) and isinstance(node.ctx, ast.Store):
                    self.assertNotIn(node.id, taken, (stem, node.lineno))
                    self.assertRegex(node.id, "^[A-Za-z]")

    def test_methods(self):
        for stem, node in nodes(ast.Call):
            if isinstance(node.func, ast.Attribute):
                self.assertIn(node.func.attr, set(METHODS) | own_methods(), (stem, node.lineno))

    def test_no_name_is_both_a_method_and_an_attribute(self):
        stored = {node.attr for _, node in nodes(ast.Attribute) if isinstance(node.ctx, ast.Store)}
        self.assertEqual(stored & own_methods(), set())
        free = dir(str) + dir(int) + dir(list) + dir(dict) + dir(set) + dir(bytes)
        self.assertEqual([each for each in stored if each in free], [])

    def test_generator_expressions_beside_comparing_classes(self):
        for stem, node in nodes(ast.Call):
            if isinstance(node.func, ast.Name) and node.func.id in ("any", "all", "min", "max", "sum", "sorted"):
                self.assertFalse([each for each in node.args if isinstance(each, ast.GeneratorExp)], (stem, node.lineno))

    def test_lists_and_dicts_of_the_module_level_are_only_read(self):
        for stem, tree in TREES.items():
            shared = [
                target.id for each in tree.body if isinstance(each, ast.Assign) for target in each.targets
                if isinstance(each.value, (ast.List, ast.Dict))
            ]
            for node in ast.walk(tree):
                if isinstance(node, ast.Call):
                    passed = [each.id for each in node.args if isinstance(each, ast.Name)]
                    self.assertFalse([each for each in passed if each in shared], (stem, node.lineno))

    def test_errors_are_raised_by_the_name_of_their_class(self):
        classes = [node.name for _, node in nodes(ast.ClassDef)]
        for stem, node in nodes(ast.Raise):
            self.assertTrue(node.exc is None or node.exc.func.id in classes, (stem, node.lineno))
        for stem, node in nodes(ast.ExceptHandler):
            self.assertIn(node.type.id, classes, (stem, node.lineno))

    def test_nested_functions_assign_nothing_around_them(self):
        for stem, outer in nodes(ast.FunctionDef):
            for inner in ast.walk(outer):
                if isinstance(inner, ast.FunctionDef) and inner != outer:
                    around = {node.id for each in outer.body if each != inner for node in ast.walk(each) if isinstance(node, ast.Name)}
                    around |= {each.arg for each in outer.args.args + outer.args.kwonlyargs}
                    own = {node.id for node in ast.walk(inner) if isinstance(node, ast.Name) and isinstance(node.ctx, ast.Store)}
                    self.assertEqual(own & around, set(), (stem, inner.lineno))

    def test_sets_are_not_written_out(self):
        for stem, node in nodes(ast.Set, ast.SetComp):
            self.fail((stem, node.lineno))


if __name__ == "__main__":
    unittest.main()
