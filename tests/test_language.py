"""Those rules of LANGUAGE.md that a look at the package's files can tell."""

import ast
import builtins
import pathlib
import re
import unittest

PACKAGE = pathlib.Path(__file__).resolve().parent.parent / "pulsewright"
FILES = sorted(path for path in PACKAGE.rglob("*") if path.is_file() and "__pycache__" not in path.parts)
BUILTINS = set(
    "len range enumerate zip min max sum abs sorted reversed int str bool bytes list tuple dict set "
    "frozenset isinstance ord repr any all divmod iter next super Exception ValueError TypeError "
    "KeyError IndexError LookupError ZeroDivisionError ArithmeticError OverflowError RuntimeError "
    "NotImplementedError AttributeError StopIteration NotImplemented property staticmethod "
    "classmethod".split())
DUNDERS = set(
    "__init__ __eq__ __repr__ __str__ __len__ __enter__ __exit__ __call__ __iter__".split())
BARRED_WORDS = set(
    "type typing typing_extensions enum Enum IntEnum StrEnum Flag IntFlag Generic Protocol ABC "
    "ABCMeta namedtuple NamedTuple TypedDict TYPE_CHECKING abstractmethod".split())
BARRED_PARTS = ("dataclass", "overload", "contextmanager")
BARRED_STATEMENTS = (
    ast.Global, ast.AsyncFunctionDef, ast.AsyncFor, ast.AsyncWith, ast.Await, ast.Import, ast.Div)
LISTENERS = {"any", "all", "min", "max", "sum", "sorted"}
METHODS = set(
    "append clear copy count endswith extend find get index insert isalnum isalpha isdigit islower "
    "isspace isupper items join keys ljust lower lstrip partition pop remove replace reverse rfind "
    "rjust rpartition rsplit rstrip setdefault split splitlines startswith strip update upper values "
    "zfill bit_length add discard __init__".split())
LISTED = {
    "rules.py": {"Rule": "words low high span lets fault barring freeing bounded joined __eq__ "
                         "__str__ __repr__".split()},
    "tables.py": {"Table": "__init__ rule pace weights pairs lots step write read __len__ __eq__".split()},
    "reader.py": {"Reader": "__init__ feed choices sure fed ended twin".split()},
    "loft.py": {"Loft": "__init__ rule bar free bound forget table drop line write turn wipe cut burn do undo redo "
                        "deeds undone twin rules tables lines rule_of table_of tape told pair late used faults "
                        "spoilt read __eq__ __len__ __repr__".split()},
    "desk.py": {"Desk": "__init__ loft say".split()},
}


def each_tree():
    """Each file of the package with its tree."""
    return [(path, ast.parse(path.read_text(encoding="utf-8"))) for path in FILES]


def methods_and_attributes(tree):
    """The names of all methods, and those of all attributes that are assigned."""
    methods, attributes = set(), set()
    for node in ast.walk(tree):
        if isinstance(node, ast.ClassDef):
            methods |= {part.name for part in node.body if isinstance(part, ast.FunctionDef)}
        if isinstance(node, ast.Attribute) and isinstance(node.ctx, ast.Store):
            attributes.add(node.attr)
    return methods, attributes


class LanguageTest(unittest.TestCase):
    def test_there_are_only_plain_files(self):
        self.assertIn("__init__.py", [path.name for path in FILES])
        for path in FILES:
            self.assertRegex(path.name, r"\A(__init__|__main__|[a-z][a-z0-9_]*)\.py\Z")

    def test_sizes_and_characters(self):
        for path in FILES:
            text = path.read_text(encoding="utf-8")
            lines = text.split("\n")
            self.assertLessEqual(len(lines), 400, path.name)
            self.assertLessEqual(max(len(line) for line in lines), 120, path.name)
            self.assertRegex(text, r"\A[ -~\n]*\Z", path.name)
        for path, tree in each_tree():
            for node in ast.walk(tree):
                if isinstance(node, ast.FunctionDef):
                    self.assertLessEqual(node.end_lineno - node.lineno + 1, 40, node.name)

    def test_words_that_do_not_occur(self):
        for path in FILES:
            text = path.read_text(encoding="utf-8")
            self.assertEqual(BARRED_WORDS & set(re.findall(r"\w+", text)), set(), path.name)
            for part in BARRED_PARTS:
                self.assertNotIn(part, text, path.name)

    def test_imports_are_the_package_s_own(self):
        for path, tree in each_tree():
            for node in ast.walk(tree):
                if isinstance(node, ast.ImportFrom):
                    self.assertEqual(node.level, 0)
                    self.assertTrue(node.module.startswith("pulsewright."), node.module)
                    self.assertNotIn("*", [name.name for name in node.names])

    def test_statements_and_values(self):
        for path, tree in each_tree():
            for node in ast.walk(tree):
                self.assertNotIsInstance(node, BARRED_STATEMENTS)
                if isinstance(node, ast.Constant):
                    self.assertNotIsInstance(node.value, (float, complex))
                    self.assertNotIn("%", str(node.value))
                if isinstance(node, ast.JoinedStr):
                    self.assertEqual(node.lineno, node.end_lineno)

    def test_builtins(self):
        for path, tree in each_tree():
            for node in ast.walk(tree):
                if isinstance(node, ast.Name) and hasattr(builtins, node.id):
                    self.assertIn(node.id, BUILTINS)
                    self.assertIsInstance(node.ctx, ast.Load)
                if isinstance(node, ast.arg):
                    self.assertFalse(hasattr(builtins, node.arg), node.arg)

    def test_names_begin_with_no_underscore(self):
        for path, tree in each_tree():
            for node in ast.walk(tree):
                for name in (getattr(node, field, None) for field in ("id", "arg", "attr", "name")):
                    if isinstance(name, str) and name.startswith("_"):
                        self.assertIn(name, DUNDERS)

    def test_no_method_has_the_name_of_an_attribute(self):
        methods, attributes = set(), set()
        for path, tree in each_tree():
            more_methods, more_attributes = methods_and_attributes(tree)
            methods |= more_methods
            attributes |= more_attributes
        self.assertEqual(methods & attributes, set())

    def test_called_methods_are_listed_or_own(self):
        own = set()
        for path, tree in each_tree():
            own |= methods_and_attributes(tree)[0]
        for path, tree in each_tree():
            for node in ast.walk(tree):
                if isinstance(node, ast.Call) and isinstance(node.func, ast.Attribute):
                    self.assertIn(node.func.attr, METHODS | own, path.name)

    def test_lists_instead_of_generators_and_no_open_powers(self):
        for path, tree in each_tree():
            for node in ast.walk(tree):
                if isinstance(node, ast.Call) and getattr(node.func, "id", None) in LISTENERS:
                    for given in node.args:
                        self.assertNotIsInstance(given, ast.GeneratorExp)
                if isinstance(node, ast.BinOp) and isinstance(node.op, ast.Pow):
                    self.assertIsInstance(node.right, ast.Constant)
                if isinstance(node, ast.Compare) and isinstance(node.ops[0], (ast.Is, ast.IsNot)):
                    self.assertIsInstance(node.comparators[0], ast.Constant)

    def test_no_local_name_is_that_of_an_import_or_a_class(self):
        for path, tree in each_tree():
            taken = {name.asname or name.name for node in tree.body
                     if isinstance(node, ast.ImportFrom) for name in node.names}
            taken |= {node.name for node in tree.body if isinstance(node, ast.ClassDef)}
            for node in ast.walk(tree):
                if isinstance(node, ast.arg):
                    self.assertNotIn(node.arg, taken, path.name)
                if isinstance(node, ast.Name) and isinstance(node.ctx, ast.Store):
                    self.assertNotIn(node.id, taken, path.name)

    def test_comparing_and_telling_methods_assign_nothing(self):
        for path, tree in each_tree():
            for node in ast.walk(tree):
                if isinstance(node, ast.FunctionDef) and node.name in ("__eq__", "__repr__", "__str__", "__len__"):
                    for part in ast.walk(node):
                        self.assertNotIsInstance(part, (ast.Assign, ast.AugAssign, ast.Delete), path.name)

    def test_what_is_iterated_at_once_is_not_kept(self):
        for path, tree in each_tree():
            for node in ast.walk(tree):
                if isinstance(node, (ast.Assign, ast.Return)) and isinstance(node.value, ast.Call):
                    called = node.value.func
                    name = getattr(called, "id", None) or getattr(called, "attr", None)
                    self.assertNotIn(name, ("zip", "enumerate", "reversed", "range", "items", "keys", "values"))

    def test_no_function_of_the_package_has_the_name_of_another_one(self):
        seen = {}
        for path, tree in each_tree():
            for node in tree.body:
                if isinstance(node, ast.FunctionDef):
                    self.assertNotIn(node.name, seen, path.name)
                    seen[node.name] = path.name

    def test_module_level(self):
        kept = (ast.ImportFrom, ast.FunctionDef, ast.ClassDef, ast.Assign)
        for path, tree in each_tree():
            self.assertIsNotNone(ast.get_docstring(tree))
            for node in tree.body[1:]:
                self.assertIsInstance(node, kept)

    def test_listed_methods_stand_in_their_classes(self):
        trees = {path.name: tree for path, tree in each_tree()}
        for file, classes in LISTED.items():
            for name, listed in classes.items():
                found = [node for node in trees[file].body
                         if isinstance(node, ast.ClassDef) and node.name == name]
                self.assertEqual(len(found), 1)
                stand = {part.name for part in found[0].body if isinstance(part, ast.FunctionDef)}
                self.assertEqual(set(listed) - stand, set())


if __name__ == "__main__":
    unittest.main()
