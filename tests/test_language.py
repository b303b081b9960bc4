"""The rules of the language that can be read off the files of the package."""

import ast
import pathlib
import re
import unittest
import warnings

PACKAGE = pathlib.Path(__file__).resolve().parent.parent / "strandpull"
BUILTINS = set("""len range enumerate zip min max sum abs sorted reversed int str bool bytes list tuple dict set
    isinstance ord repr any all divmod super ValueError TypeError KeyError IndexError LookupError
    ZeroDivisionError""".split())
METHODS = set("""append clear copy count endswith extend find get index insert isalnum isalpha isdigit islower isspace
    isupper items join keys ljust lower lstrip partition pop remove replace reverse rfind rjust rpartition rsplit rstrip
    setdefault split splitlines startswith strip update upper values zfill bit_length add discard __init__""".split())
BARRED = set("""type typing typing_extensions enum Enum IntEnum StrEnum Flag IntFlag Generic Protocol ABC ABCMeta
    namedtuple NamedTuple TypedDict TYPE_CHECKING abstractmethod""".split())
UNUSED = set("""register mro elements open input law version_info with_traceback add_note attrgetter breakpoint builtins
    compile copyright credits delattr dir eval exec exit gc getattr globals hasattr help id importlib license locals
    methodcaller os quit setattr vars sys""".split())
DOUBLE_UNDERSCORE = ("__init__", "__len__")
KINDS_BARRED = (ast.Global, ast.AsyncFunctionDef, ast.Await, ast.AsyncFor, ast.AsyncWith, ast.Div, ast.Import)


def files():
    return sorted(PACKAGE.glob("*.py"))


def trees():
    return [(path.name, ast.parse(path.read_text())) for path in files()]


def bound(tree):
    """Every name that a file binds anywhere."""
    names = set()
    for node in ast.walk(tree):
        if isinstance(node, (ast.FunctionDef, ast.ClassDef)):
            names.add(node.name)
        elif isinstance(node, ast.Name) and not isinstance(node.ctx, ast.Load):
            names.add(node.id)
        elif isinstance(node, ast.arg):
            names.add(node.arg)
        elif isinstance(node, ast.alias):
            names.add(node.asname or node.name)
    return names


def defined_in(tree):
    """Every name that a file defines itself at module level."""
    names = {node.name for node in tree.body if hasattr(node, "name")}
    return names | {target.id for node in tree.body if isinstance(node, ast.Assign) for target in node.targets}


def imports_of(tree):
    return {node.module.partition(".")[2] for node in tree.body if isinstance(node, ast.ImportFrom)}


def methods_and_attributes():
    """The names of all methods, and those of all attributes that are assigned."""
    methods = set()
    attributes = set()
    for _, tree in trees():
        for node in ast.walk(tree):
            if isinstance(node, ast.ClassDef):
                methods |= {part.name for part in node.body if isinstance(part, ast.FunctionDef)}
            if isinstance(node, ast.Attribute) and isinstance(node.ctx, ast.Store):
                attributes.add(node.attr)
    return methods, attributes


class LanguageTests(unittest.TestCase):
    def test_the_folder_holds_plain_files_alone(self):
        for path in PACKAGE.iterdir():
            if path.name != "__pycache__":
                self.assertRegex(path.name, r"^([a-z][a-z0-9_]*|__init__|__main__)\.py$")

    def test_characters_and_sizes(self):
        for path in files():
            text = path.read_text()
            self.assertIsNone(re.search(r"[^ -~\n]", text), path.name)
            lines = text.split("\n")
            self.assertLess(len(lines), 400, path.name)
            self.assertLessEqual(max(len(line) for line in lines), 120, path.name)

    def test_functions_are_small(self):
        for name, tree in trees():
            for node in ast.walk(tree):
                if isinstance(node, ast.FunctionDef):
                    self.assertLessEqual(node.end_lineno - node.lineno + 1, 40, (name, node.name))

    def test_barred_words(self):
        for path in files():
            words = set(re.findall(r"\w+", path.read_text()))
            self.assertEqual(words & BARRED, set(), path.name)

    def test_imports_are_of_the_package_and_from_the_file_that_defines(self):
        defined = {name[:-3]: defined_in(tree) for name, tree in trees()}
        for name, tree in trees():
            for node in ast.walk(tree):
                if isinstance(node, ast.ImportFrom):
                    self.assertEqual(node.level, 0, name)
                    top, _, module = node.module.partition(".")
                    self.assertEqual(top, "strandpull", name)
                    for alias in node.names:
                        self.assertIn(alias.name, defined[module], name)

    def test_no_two_files_import_from_each_other(self):
        waiting = {name[:-3]: imports_of(tree) for name, tree in trees()}
        while waiting:
            free = [name for name in waiting if not waiting[name] & set(waiting)]
            self.assertTrue(free, sorted(waiting))
            for name in free:
                del waiting[name]

    def test_a_name_is_bound_once_at_module_level(self):
        for name, tree in trees():
            words = sorted(defined_in(tree)) + [alias.name for node in tree.body if isinstance(node, ast.ImportFrom)
                                                for alias in node.names]
            self.assertEqual(len(words), len(set(words)), name)

    def test_no_name_is_both_a_method_and_an_attribute(self):
        methods, attributes = methods_and_attributes()
        self.assertEqual(methods & attributes, set())
        for kind in (str, int, list, dict, set, bytes, tuple):
            self.assertEqual((methods - set(DOUBLE_UNDERSCORE) | attributes) & set(dir(kind)), set())

    def test_each_attribute_that_is_read_is_assigned_or_a_method(self):
        methods, attributes = methods_and_attributes()
        for name, tree in trees():
            for node in ast.walk(tree):
                if isinstance(node, ast.Attribute):
                    self.assertIn(node.attr, METHODS | methods | attributes, name)

    def test_a_finally_assigns_simple_values_alone(self):
        for name, tree in trees():
            for node in ast.walk(tree):
                if isinstance(node, ast.Try):
                    for row in node.finalbody:
                        self.assertIsInstance(row, ast.Assign, name)
                        self.assertIsInstance(row.value, ast.Constant, name)

    def test_what_is_raised_is_made_on_the_spot(self):
        for name, tree in trees():
            for node in ast.walk(tree):
                if isinstance(node, ast.Raise):
                    self.assertIsInstance(node.exc, ast.Call, name)
                    self.assertIsInstance(node.exc.func, ast.Name, name)

    def test_names(self):
        for name, tree in trees():
            for word in bound(tree):
                self.assertNotIn(word, BUILTINS | UNUSED, name)
                self.assertTrue(not word.startswith("_") or word in DOUBLE_UNDERSCORE, (name, word))

    def test_only_allowed_builtins_and_methods_are_used(self):
        own = {word for _, tree in trees() for word in bound(tree)}
        for name, tree in trees():
            known = bound(tree) | BUILTINS
            for node in ast.walk(tree):
                if isinstance(node, ast.Name):
                    self.assertIn(node.id, known, name)
                if isinstance(node, ast.Call) and isinstance(node.func, ast.Attribute):
                    self.assertIn(node.func.attr, METHODS | own, name)

    def test_no_statement_or_value_outside_the_language(self):
        for name, tree in trees():
            for node in ast.walk(tree):
                self.assertNotIsInstance(node, KINDS_BARRED, name)
                if isinstance(node, ast.Constant):
                    self.assertNotIsInstance(node.value, (float, complex), name)
                    self.assertNotIn("%", str(node.value), name)
                if isinstance(node, ast.Compare) and any(isinstance(sign, (ast.Is, ast.IsNot)) for sign in node.ops):
                    self.assertIn(ast.unparse(node.comparators[0]), ("None", "True", "False"), name)

    def test_no_name_of_an_import_or_class_is_bound_again_in_its_file(self):
        for name, tree in trees():
            taken = {alias.name for node in tree.body if isinstance(node, ast.ImportFrom) for alias in node.names}
            taken |= {node.name for node in tree.body if isinstance(node, ast.ClassDef)}
            for node in ast.walk(tree):
                if isinstance(node, ast.FunctionDef):
                    self.assertEqual(bound(node) & taken, set(), (name, node.name))

    def test_no_warning_of_python(self):
        with warnings.catch_warnings():
            warnings.simplefilter("error")
            for path in files():
                compile(path.read_text(), str(path), "exec")


if __name__ == "__main__":
    unittest.main()
