"""The rules of ../shared/LANGUAGE.md that can be seen in a file's form."""

import ast
import builtins
import re
import unittest
from pathlib import Path

PACKAGE = Path(__file__).resolve().parent.parent / "stilldose"

ERRORS = """Exception ValueError TypeError KeyError IndexError LookupError ZeroDivisionError ArithmeticError
    OverflowError RuntimeError NotImplementedError AttributeError StopIteration""".split()
# L8, without chr (L27) and without print (there is no __main__.py).
OWN_OF_PYTHON = ERRORS + """len range enumerate zip min max sum abs sorted reversed int str bool list tuple dict set
    frozenset isinstance ord repr any all divmod""".split()
# L25
METHODS = """append clear copy count endswith extend find get index insert isalnum isalpha isdigit islower isspace
    isupper items join keys ljust lower lstrip partition pop remove replace reverse rfind rjust rpartition rsplit
    rstrip setdefault split splitlines startswith strip update upper values zfill bit_length""".split()
# L5
DOUBLE = "__init__ __eq__ __repr__ __str__ __len__".split()
# L17
WORDS = """type typing typing_extensions enum Enum IntEnum StrEnum Flag IntFlag Generic Protocol ABC ABCMeta
    namedtuple NamedTuple TypedDict TYPE_CHECKING abstractmethod""".split()
# L6 and L7: what a tree may be made of.
NODES = """Module Expr Assign AugAssign If While For Return Break Continue Pass Raise Try ExceptHandler
    FunctionDef ClassDef ImportFrom alias arguments arg Lambda
    Constant Name Attribute Subscript Slice List Tuple Dict Set Call keyword JoinedStr FormattedValue
    BinOp UnaryOp BoolOp Compare IfExp ListComp comprehension Load Store
    Add Sub Mult FloorDiv Mod Pow LShift RShift BitOr BitXor BitAnd Invert Not UAdd USub And Or
    Eq NotEq Lt LtE Gt GtE Is IsNot In NotIn""".split()


def sources():
    return {path: path.read_text(encoding="utf-8") for path in sorted(PACKAGE.rglob("*.py"))}


def trees():
    return {path: ast.parse(text) for path, text in sources().items()}


def nodes():
    return [(path, node) for path, tree in trees().items() for node in ast.walk(tree)]


def own_methods():
    classes = [node for path, node in nodes() if isinstance(node, ast.ClassDef)]
    return [part.name for made in classes for part in made.body if isinstance(part, ast.FunctionDef)]


def bound_names(tree):
    """All names that a file binds, anywhere."""
    names = []
    for node in ast.walk(tree):
        if isinstance(node, (ast.FunctionDef, ast.ClassDef)):
            names.append(node.name)
        elif isinstance(node, ast.arg):
            names.append(node.arg)
        elif isinstance(node, ast.alias):
            names.append(node.name)
        elif isinstance(node, ast.Name) and isinstance(node.ctx, ast.Store):
            names.append(node.id)
        elif isinstance(node, ast.ExceptHandler) and node.name:
            names.append(node.name)
    return names


def drawn_from(tree):
    """The names of the package's files that a file draws from."""
    return [node.module.split(".")[1] for node in tree.body if isinstance(node, ast.ImportFrom)]


def is_plain(value):
    """Whether a value of a file's top is a number, a text, or a tuple of such."""
    if isinstance(value, ast.Tuple):
        return all(is_plain(part) for part in value.elts)
    return isinstance(value, ast.Constant)


def classes():
    return [(path, node) for path, node in nodes() if isinstance(node, ast.ClassDef)]


def functions():
    return [(path, node) for path, node in nodes() if isinstance(node, ast.FunctionDef)]


def locals_of(function):
    """The parameters of a function, and all that it gives a value to."""
    inner = [node for node in ast.walk(function) if isinstance(node, (ast.arg, ast.Name))]
    given = [node.arg for node in inner if isinstance(node, ast.arg)]
    return given + [node.id for node in inner if isinstance(node, ast.Name) and isinstance(node.ctx, ast.Store)]


class Files(unittest.TestCase):
    def test_there_are_files(self):
        names = [path.name for path in sources()]
        for name in ["__init__.py", "errors.py", "rates.py", "limits.py", "pumps.py", "saves.py", "ahead.py"]:
            self.assertIn(name, names)

    def test_nothing_else_lies_in_the_package(self):
        for path in PACKAGE.rglob("*"):
            if "__pycache__" not in path.parts:
                self.assertRegex(path.name, r"^[a-z0-9_]+\.py$")
                self.assertFalse(path.name.startswith("test"), path)

    def test_signs_and_sizes(self):
        for path, text in sources().items():
            self.assertRegex(text, r"\A[ -~\n]*\Z", path)
            rows = text.split("\n")
            self.assertLessEqual(len(rows), 400, path)
            self.assertLessEqual(max(len(row) for row in rows), 120, path)

    def test_words_that_stand_nowhere(self):
        for path, text in sources().items():
            for word in WORDS:
                self.assertIsNone(re.search(rf"\b{word}\b", text), (path, word))
            for part in ["dataclass", "overload", "contextmanager"]:
                self.assertNotIn(part, text, path)


class Forms(unittest.TestCase):
    def test_what_a_tree_is_made_of(self):
        for path, node in nodes():
            self.assertIn(node.__class__.__name__, NODES, (path, getattr(node, "lineno", 0)))

    def test_imports(self):
        for path, node in nodes():
            if isinstance(node, ast.ImportFrom):
                self.assertEqual(node.level, 0)
                self.assertRegex(node.module, r"^stilldose\.[a-z0-9_]+$")
                defined = bound_names(trees()[PACKAGE / (node.module.split(".")[1] + ".py")])
                for alias in node.names:
                    self.assertIn(alias.name, defined)
                    self.assertIsNone(alias.asname)

    def test_no_two_files_draw_from_one_another(self):
        drawn = {path.stem: drawn_from(tree) for path, tree in trees().items()}
        settled = []
        while len(settled) < len(drawn):
            free = [name for name in drawn if name not in settled and all(other in settled for other in drawn[name])]
            self.assertNotEqual(free, [], settled)
            settled += free

    def test_the_top_of_a_file(self):
        for path, tree in trees().items():
            self.assertIsInstance(ast.get_docstring(tree), str, path)
            bound = []
            for node in tree.body[1:]:
                self.assertIsInstance(node, (ast.ImportFrom, ast.FunctionDef, ast.ClassDef, ast.Assign), path)
                if isinstance(node, ast.ImportFrom):
                    bound += [alias.name for alias in node.names]
                elif isinstance(node, ast.Assign):
                    self.assertTrue(is_plain(node.value), (path, node.lineno))
                    bound += [target.id for target in node.targets]
                else:
                    bound.append(node.name)
            self.assertEqual(len(bound), len(dict.fromkeys(bound)), path)

    def test_locals_hide_no_name_of_the_top(self):
        for path, tree in trees().items():
            top = bound_names(ast.Module([node for node in tree.body if isinstance(node, ast.ImportFrom)], []))
            top += [node.name for node in tree.body if isinstance(node, (ast.ClassDef, ast.FunctionDef))]
            for function in [node for node in ast.walk(tree) if isinstance(node, ast.FunctionDef)]:
                for name in locals_of(function):
                    self.assertNotIn(name, top, (path, function.name))

    def test_no_defaults_and_no_annotations(self):
        for path, node in functions():
            self.assertEqual((node.args.defaults, node.returns), ([], None), (path, node.name))
            self.assertTrue(all(given.annotation is None for given in node.args.args), (path, node.name))

    def test_one_target(self):
        for path, node in nodes():
            if isinstance(node, ast.Assign):
                self.assertEqual(len(node.targets), 1, (path, node.lineno))
                self.assertIsInstance(node.targets[0], (ast.Name, ast.Attribute, ast.Subscript), (path, node.lineno))
            if isinstance(node, (ast.For, ast.While)):
                self.assertEqual(node.orelse, [], (path, node.lineno))

    def test_functions(self):
        for path, node in nodes():
            if isinstance(node, ast.FunctionDef):
                self.assertLessEqual(node.end_lineno - node.lineno + 1, 40, (path, node.name))
                self.assertEqual(node.decorator_list, [])
                given = node.args
                self.assertFalse(given.vararg or given.kwarg or given.kwonlyargs or given.posonlyargs, node.name)

    def test_classes(self):
        for path, node in nodes():
            if isinstance(node, ast.ClassDef):
                self.assertEqual((node.decorator_list, node.keywords), ([], []))
                self.assertLessEqual(len(node.bases), 1)
                for part in node.body:
                    plain = isinstance(part, (ast.FunctionDef, ast.Pass))
                    self.assertTrue(plain or isinstance(part, ast.Expr) and isinstance(part.value, ast.Constant))

    def test_names(self):
        for path, tree in trees().items():
            bound = bound_names(tree)
            for name in bound:
                if name not in DOUBLE:
                    self.assertRegex(name, r"^[A-Za-z][A-Za-z0-9_]*$")
                    self.assertFalse(hasattr(builtins, name), (path, name))
            for node in ast.walk(tree):
                if isinstance(node, ast.Name) and isinstance(node.ctx, ast.Load):
                    self.assertIn(node.id, bound + OWN_OF_PYTHON, (path, node.lineno))

    def test_methods(self):
        allowed = METHODS + own_methods()
        for path, node in nodes():
            if isinstance(node, ast.Call) and isinstance(node.func, ast.Attribute):
                self.assertIn(node.func.attr, allowed, (path, node.lineno))

    def test_no_name_is_a_method_and_a_value(self):
        for path, node in nodes():
            if isinstance(node, ast.Attribute) and isinstance(node.ctx, ast.Store):
                self.assertNotIn(node.attr, own_methods() + METHODS, (path, node.lineno))

    def test_no_method_stands_twice(self):
        for path, made in classes():
            names = [part.name for part in made.body if isinstance(part, ast.FunctionDef)]
            self.assertEqual(len(names), len(dict.fromkeys(names)), (path, made.name))

    def test_own_names_are_not_those_of_pythons_values(self):
        taken = [name for kind in [str, int, list, dict, set, bytes, tuple] for name in vars(kind)]
        values = [node for path, node in nodes() if isinstance(node, ast.Attribute)]
        stored = [node.attr for node in values if isinstance(node.ctx, ast.Store)]
        for name in own_methods() + stored:
            if name not in DOUBLE:
                self.assertNotIn(name, taken)

    def test_methods_are_called_where_they_stand(self):
        found = nodes()
        called = [node.func for path, node in found if isinstance(node, ast.Call)]
        for path, node in found:
            if isinstance(node, ast.Attribute) and node.attr in own_methods() + METHODS:
                self.assertIn(node, called, (path, node.lineno))

    def test_pythons_own_are_called_without_keywords(self):
        for path, node in nodes():
            if isinstance(node, ast.Call):
                self.assertEqual(node.keywords, [], (path, node.lineno))

    def test_what_is_walked_at_once(self):
        found = nodes()
        walked = [node.iter for path, node in found if isinstance(node, (ast.For, ast.comprehension))]
        for path, node in found:
            if isinstance(node, ast.Call) and isinstance(node.func, ast.Name):
                if node.func.id in ["zip", "enumerate", "reversed", "range"]:
                    self.assertIn(node, walked, (path, node.lineno))
                self.assertNotIn(node.func.id, ["set", "frozenset"], (path, node.lineno))

    def test_errors_are_made_on_the_spot(self):
        for path, node in nodes():
            if isinstance(node, ast.Raise):
                self.assertIsInstance(node.exc, ast.Call, (path, node.lineno))
                self.assertIn(node.exc.func.id, [made.name for file, made in classes()], (path, node.lineno))

    def test_init_gives_back_nothing(self):
        for path, node in functions():
            if node.name == "__init__":
                self.assertFalse(any(isinstance(part, ast.Return) for part in ast.walk(node)), path)

    def test_plain_values(self):
        for path, node in nodes():
            if isinstance(node, ast.Constant):
                self.assertIn(node.value.__class__, [int, str, bool, None.__class__], (path, node.lineno))
                self.assertNotIn("%", str(node.value), (path, node.lineno))

    def test_is_stands_beside_none_true_and_false(self):
        for path, node in nodes():
            if isinstance(node, ast.Compare) and isinstance(node.ops[0], (ast.Is, ast.IsNot)):
                self.assertIsInstance(node.comparators[0], ast.Constant, (path, node.lineno))


if __name__ == "__main__":
    unittest.main()
