"""The form of the package's files: the part of Python that it keeps to, as far as a plain look can tell."""

import ast
import builtins
import pathlib
import re
import unittest

PACKAGE = pathlib.Path(__file__).resolve().parent.parent / "lugtrain"
FILES = sorted(PACKAGE.rglob("*.py"))

OWN_NAMES = """
len range enumerate zip min max sum abs sorted reversed int str bool bytes list tuple dict set frozenset isinstance
ord repr any all divmod Exception ValueError TypeError KeyError IndexError LookupError ZeroDivisionError
ArithmeticError OverflowError RuntimeError NotImplementedError AttributeError StopIteration True False None
""".split()

WORDS_OUT = """
type typing typing_extensions enum Enum IntEnum StrEnum Flag IntFlag Generic Protocol ABC ABCMeta namedtuple
NamedTuple TypedDict TYPE_CHECKING abstractmethod
""".split()

NODES_OUT = (
    ast.With, ast.Match, ast.Global, ast.Nonlocal, ast.Yield, ast.YieldFrom, ast.AsyncFunctionDef, ast.Await,
    ast.GeneratorExp, ast.NamedExpr, ast.Div, ast.MatMult, ast.Import,
)

METHODS_OF_PYTHONS_OWN = """
append clear copy count endswith extend find get index insert isalnum isalpha isdigit islower isspace isupper items
join keys ljust lower lstrip partition pop remove replace reverse rfind rjust rpartition rsplit rstrip setdefault
split splitlines startswith strip update upper values zfill bit_length
""".split()

# Of these what is told is walked on the spot, or made a thing that is kept.
WALKED = ["zip", "enumerate", "reversed", "range", "items", "keys", "values"]
WALKERS = ["list", "tuple", "dict", "sorted", "sum", "any", "all", "enumerate", "zip", "min", "max"]

DUNDERS = ["__init__", "__eq__", "__repr__", "__str__", "__len__", "__all__", "__version__"]


def tree_of(file):
    return ast.parse(file.read_text(encoding="utf-8"))


def methods_of_classes():
    return {
        node.name for name, kind in nodes_of(ast.ClassDef) for node in kind.body if isinstance(node, ast.FunctionDef)
    }


def values_of_objects():
    return {node.attr for name, node in nodes_of(ast.Attribute) if isinstance(node.ctx, ast.Store)}


def drawn_from(file):
    """The package's modules that the file draws from, by their plain names."""
    return [node.module.split(".")[1] for node in tree_of(file).body if isinstance(node, ast.ImportFrom)]


def name_of_call(node):
    """The name by which something is called, plainly or as a method; empty where it is no call."""
    if not isinstance(node, ast.Call):
        return ""
    return node.func.attr if isinstance(node.func, ast.Attribute) else node.func.id


def nodes_of(kind):
    return [(file.name, node) for file in FILES for node in ast.walk(tree_of(file)) if isinstance(node, kind)]


class Form(unittest.TestCase):
    def test_the_folder_holds_python_files_alone(self):
        for thing in PACKAGE.rglob("*"):
            if "__pycache__" not in thing.parts:
                self.assertTrue(thing.is_dir() or thing.suffix == ".py", thing)
        self.assertIn(PACKAGE / "__init__.py", FILES)

    def test_signs_and_sizes(self):
        for file in FILES:
            text = file.read_bytes().decode("ascii")
            self.assertIsNone(re.search(r"[^\n -~]", text), file)
            rows = text.split("\n")
            self.assertLessEqual(len(rows), 400, file)
            self.assertLessEqual(max(len(row) for row in rows), 120, file)
        for name, node in nodes_of(ast.FunctionDef):
            self.assertLessEqual(node.end_lineno - node.lineno + 1, 40, (name, node.name))

    def test_words_that_stand_nowhere(self):
        for file in FILES:
            text = file.read_text(encoding="ascii")
            for word in WORDS_OUT:
                self.assertIsNone(re.search(rf"\b{word}\b", text), (file, word))
            for piece in ("dataclass", "overload", "contextmanager"):
                self.assertNotIn(piece, text, file)

    def test_what_is_left_out_of_the_language(self):
        for name, node in nodes_of(NODES_OUT):
            self.fail((name, node.lineno, node.__class__.__name__))
        for name, node in nodes_of((ast.For, ast.While)):
            self.assertEqual(node.orelse, [], (name, node.lineno))
        for name, node in nodes_of((ast.FunctionDef, ast.ClassDef)):
            self.assertEqual(node.decorator_list, [], (name, node.name))
        for name, node in nodes_of(ast.Constant):
            self.assertNotIsInstance(node.value, (float, complex), (name, node.lineno))
            self.assertFalse(isinstance(node.value, str) and chr(37) in node.value, (name, node.lineno))

    def test_imports_are_the_packages_own(self):
        for name, node in nodes_of(ast.ImportFrom):
            self.assertEqual(node.level, 0, name)
            self.assertTrue(node.module.startswith("lugtrain."), (name, node.module))

    def test_names(self):
        own = dir(builtins)
        for name, node in nodes_of(ast.Name):
            self.assertTrue(node.id in OWN_NAMES or node.id not in own, (name, node.id))
            if isinstance(node.ctx, ast.Store):
                self.assertNotIn(node.id, own, name)
            self.assertFalse(node.id.startswith("_") and node.id not in DUNDERS, (name, node.id))
        for name, node in nodes_of(ast.arg):
            self.assertFalse(node.arg.startswith("_") or node.arg in own, (name, node.arg))
        for name, node in nodes_of((ast.FunctionDef, ast.ClassDef)):
            self.assertFalse(node.name.startswith("_") and node.name not in DUNDERS, (name, node.name))
        for name, node in nodes_of(ast.Attribute):
            self.assertFalse(node.attr.startswith("_") and node.attr not in DUNDERS, (name, node.attr))

    def test_each_name_of_a_top_is_given_once(self):
        for file in FILES:
            given = []
            for at, node in enumerate(tree_of(file).body):
                if isinstance(node, ast.ImportFrom):
                    given += [drawn.asname or drawn.name for drawn in node.names]
                elif isinstance(node, (ast.FunctionDef, ast.ClassDef)):
                    given.append(node.name)
                elif isinstance(node, ast.Assign):
                    given += [target.id for target in node.targets]
                else:
                    self.assertTrue(at == 0 and isinstance(node, ast.Expr), (file, node.lineno))
            self.assertEqual(len(given), len(set(given)), file)

    def test_names_are_drawn_from_the_file_that_defines_them(self):
        for name, node in nodes_of(ast.ImportFrom):
            top = tree_of(PACKAGE / (node.module.split(".")[1] + ".py")).body
            defined = [thing.name for thing in top if isinstance(thing, (ast.FunctionDef, ast.ClassDef))]
            defined += [thing.targets[0].id for thing in top if isinstance(thing, ast.Assign)]
            for drawn in node.names:
                self.assertIn(drawn.name, defined, (name, node.module))

    def test_no_two_files_draw_from_one_another(self):
        waiting = {file.stem: drawn_from(file) for file in FILES}
        while waiting:
            free = [stem for stem in waiting if not set(waiting[stem]) & set(waiting)]
            self.assertNotEqual(free, [], waiting)
            waiting = {stem: waiting[stem] for stem in waiting if stem not in free}

    def test_methods_and_values_of_objects(self):
        methods, values = methods_of_classes(), values_of_objects()
        self.assertEqual(methods & values, set())
        own = {name for kind in (str, int, list, dict, set, bytes) for name in dir(kind)} - set(DUNDERS)
        self.assertEqual(values & own, set())
        self.assertEqual((methods & own) - set(METHODS_OF_PYTHONS_OWN), set())
        for name, node in nodes_of(ast.Attribute):
            self.assertIn(node.attr, methods | values | set(METHODS_OF_PYTHONS_OWN), (name, node.lineno))
        for name, node in nodes_of(ast.ClassDef):
            for thing in node.body:
                fits = isinstance(thing, ast.FunctionDef) or thing is node.body[0] and isinstance(thing, ast.Expr)
                self.assertTrue(fits, (name, node.name, thing.lineno))

    def test_names_within_a_def_are_not_those_of_a_class_or_an_import(self):
        for file in FILES:
            body = tree_of(file).body
            taken = {node.name for node in body if isinstance(node, ast.ClassDef)}
            taken |= {drawn.name for node in body if isinstance(node, ast.ImportFrom) for drawn in node.names}
            for node in ast.walk(tree_of(file)):
                if isinstance(node, ast.Name) and isinstance(node.ctx, ast.Store):
                    self.assertNotIn(node.id, taken, (file, node.lineno))
                if isinstance(node, ast.arg):
                    self.assertNotIn(node.arg, taken, (file, node.lineno))

    def test_walked_at_once(self):
        for file in FILES:
            tree = tree_of(file)
            fits = [node.iter for node in ast.walk(tree) if isinstance(node, (ast.For, ast.comprehension))]
            fits += [node.args[0] for node in ast.walk(tree) if name_of_call(node) in WALKERS and node.args]
            for node in ast.walk(tree):
                if name_of_call(node) in WALKED:
                    self.assertIn(node, fits, (file, node.lineno))

    def test_stars_keywords_and_texts_in_braces(self):
        for name, node in nodes_of(ast.Starred):
            self.assertIsInstance(node.ctx, ast.Store, (name, node.lineno))
        for name, node in nodes_of(ast.arguments):
            self.assertFalse(node.vararg or node.kwarg or node.posonlyargs, name)
        for name, node in nodes_of(ast.Call):
            self.assertEqual(node.keywords, [], (name, node.lineno))
        for name, node in nodes_of(ast.FormattedValue):
            self.assertIsNone(node.format_spec, (name, node.lineno))

    def test_errors_are_made_on_the_spot(self):
        kinds = [kind.name for name, kind in nodes_of(ast.ClassDef) if name == "errors.py"]
        for name, node in nodes_of(ast.Raise):
            self.assertIn(name_of_call(node.exc), kinds, (name, node.lineno))
        self.assertEqual(nodes_of(ast.Try), [])

    def test_is_stands_beside_none_true_and_false_alone(self):
        for name, node in nodes_of(ast.Compare):
            for sign, right in zip(node.ops, node.comparators):
                if isinstance(sign, (ast.Is, ast.IsNot)):
                    self.assertTrue(isinstance(right, ast.Constant) and right.value in (None, True, False), name)


if __name__ == "__main__":
    unittest.main()
