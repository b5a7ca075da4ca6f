"""The form: the interface's names stand in their files, and the plainer rules of LANGUAGE.md hold there.

Only rules that a few lines can see are looked at here; the others are still required.
"""

import ast
import builtins
import pathlib
import re
import unittest

import tabgrow

FOLDER = pathlib.Path(tabgrow.__file__).parent
INTERFACE = {
    "stretches": {"stretches": ["page", "style"]},
    "laying": {
        "stops": ["page", "style"], "laid": ["page", "style"], "shown": ["page", "style"],
        "read_back": ["lines", "told"], "guessed": ["lines"], "judged": ["page", "style", "told"],
    },
    "routes": {"route": ["page", "other"], "stepped": ["page", "style", "steps"]},
    "paints": {"strokes": ["before", "later"], "painted": ["lines", "drawn"]},
    "placing": {"placed": ["page", "style", "row"], "gap_within": ["page", "least", "most"]},
    "notes": {"written": ["page"], "read": ["text"]},
}
CLASSES = {
    ("sheets", "Sheet"): {
        "__init__": ["page", "style"], "put": ["number", "row"], "take": ["number"], "change": ["number", "row"],
        "strike": ["number", "cell", "place", "sign"], "erase": ["number", "cell", "place"],
        "part": ["number", "cell", "place"], "unite": ["number"], "page": [], "begins": [], "back": [],
    },
    ("cursors", "Cursor"): {
        "__init__": ["page", "style"], "at": [], "aside": [], "left": [], "right": [], "up": [], "down": [],
        "back": [], "press": ["sign"], "rub": [], "page": [],
    },
    ("hands", "Table"): {
        "__init__": ["page", "style", "hands"], "press": ["hand", "sign"], "rub": ["hand"], "back": ["hand"],
        "again": ["hand"], "left": ["hand"], "right": ["hand"], "at": ["hand"], "page": [], "told": [], "begins": [],
    },
}
BUILTINS = set("""len range enumerate zip min max sum abs sorted reversed int str bool bytes list tuple dict set
    frozenset isinstance ord repr any all divmod iter next super property staticmethod classmethod
    Exception ValueError TypeError KeyError IndexError LookupError ZeroDivisionError ArithmeticError OverflowError
    RuntimeError NotImplementedError AttributeError StopIteration NotImplemented""".split())
METHODS = set("""append clear copy count endswith extend find get index insert isalnum isalpha isdigit islower isspace
    isupper items join keys ljust lower lstrip partition pop remove replace reverse rfind rjust rpartition rsplit
    rstrip setdefault split splitlines startswith strip update upper values zfill bit_length title capitalize swapcase
    casefold center expandtabs removeprefix removesuffix rindex isascii isdecimal isnumeric istitle isidentifier
    isprintable translate sort add discard""".split())
DOUBLE = set("__init__ __eq__ __repr__ __str__ __len__ __enter__ __exit__ __call__ __iter__".split())
BARRED = re.compile(r"\b(type|typing|typing_extensions|enum|Enum|IntEnum|StrEnum|Flag|IntFlag|Generic|Protocol|ABC|"
                    r"ABCMeta|namedtuple|NamedTuple|TypedDict|TYPE_CHECKING|abstractmethod)\b|"
                    r"dataclass|overload|contextmanager")


def files():
    return sorted(path for path in FOLDER.rglob("*") if path.is_file() and "__pycache__" not in path.parts)


def trees():
    return [(path, ast.parse(path.read_text())) for path in files()]


def nodes(*kinds):
    return [(path.name, node) for path, tree in trees() for node in ast.walk(tree) if isinstance(node, kinds)]


def bound_names(tree):
    """The names of all functions, parameters and variables."""
    found = []
    for node in ast.walk(tree):
        if isinstance(node, ast.arg):
            found.append(node.arg)
        elif isinstance(node, ast.FunctionDef):
            found.append(node.name)
        elif isinstance(node, ast.Name) and isinstance(node.ctx, ast.Store):
            found.append(node.id)
    return found


def class_names(tree):
    return [node.name for node in tree.body if isinstance(node, ast.ClassDef)]


def imported_names(tree):
    return [alias.name for node in tree.body if isinstance(node, ast.ImportFrom) for alias in node.names]


class Interface(unittest.TestCase):
    def test_functions_are_defined_in_their_files(self):
        for module, functions in INTERFACE.items():
            tree = ast.parse((FOLDER / f"{module}.py").read_text())
            defined = {node.name: [each.arg for each in node.args.args]
                       for node in tree.body if isinstance(node, ast.FunctionDef)}
            for name, arguments in functions.items():
                self.assertEqual(defined.get(name), arguments, name)

    def test_classes_and_their_methods_are_defined_in_their_files(self):
        for (module, name), methods in CLASSES.items():
            tree = ast.parse((FOLDER / f"{module}.py").read_text())
            bodies = [node.body for node in tree.body if isinstance(node, ast.ClassDef) and node.name == name]
            self.assertEqual(len(bodies), 1, name)
            defined = {node.name: [each.arg for each in node.args.args]
                       for node in bodies[0] if isinstance(node, ast.FunctionDef)}
            for method, arguments in methods.items():
                self.assertEqual(defined.get(method), ["self"] + arguments, (name, method))


class Files(unittest.TestCase):
    def test_names_of_files(self):
        for path in files():
            self.assertRegex(path.name, r"^(__init__|__main__|[a-z][a-z0-9_]*)\.py$")
        self.assertTrue((FOLDER / "__init__.py").exists())

    def test_sizes_and_signs(self):
        for path in files():
            text = path.read_bytes().decode("ascii")
            lines = text.split("\n")
            self.assertLess(len(lines), 400, path)
            for number, line in enumerate(lines, 1):
                self.assertLessEqual(len(line), 120, (path, number))
                self.assertRegex(line, "^[ -~]*$", (path, number))

    def test_words_that_are_barred(self):
        for path in files():
            self.assertIsNone(BARRED.search(path.read_text()), path)

    def test_imports(self):
        for name, node in nodes(ast.Import, ast.ImportFrom):
            self.assertIsInstance(node, ast.ImportFrom, name)
            self.assertTrue(node.module.startswith("tabgrow."), name)
            there = ast.parse((FOLDER / f"{node.module.split('.')[1]}.py").read_text())
            defined = [each.name for each in there.body if isinstance(each, (ast.FunctionDef, ast.ClassDef))]
            defined += [target.id for each in there.body if isinstance(each, ast.Assign) for target in each.targets]
            for alias in node.names:
                self.assertIn(alias.name, defined, name)

    def test_module_level(self):
        for path, tree in trees():
            for node in tree.body:
                self.assertIsInstance(
                    node, (ast.Expr, ast.ImportFrom, ast.FunctionDef, ast.ClassDef, ast.Assign), path)
                if isinstance(node, ast.Expr):
                    self.assertIsInstance(node.value, ast.Constant, path)


class Rules(unittest.TestCase):
    def test_functions_have_at_most_forty_lines(self):
        for name, node in nodes(ast.FunctionDef):
            self.assertLessEqual(node.end_lineno - node.lineno + 1, 40, (name, node.name))

    def test_names(self):
        for path, tree in trees():
            for name in bound_names(tree) + class_names(tree):
                self.assertNotIn(name, dir(builtins), path)
                if name not in DOUBLE:
                    self.assertRegex(name, "^[A-Za-z][A-Za-z0-9_]*$", path)

    def test_no_name_of_a_class_or_an_import_is_given_again(self):
        for path, tree in trees():
            taken = class_names(tree) + imported_names(tree)
            self.assertEqual(len(taken), len(set(taken)), path)
            self.assertEqual(set(taken) & set(bound_names(tree)), set(), path)

    def test_builtins_that_are_used(self):
        for name, node in nodes(ast.Name):
            if node.id in dir(builtins):
                self.assertIn(node.id, BUILTINS, (name, node.lineno))

    def test_methods_that_are_called(self):
        own = {node.name for _, node in nodes(ast.FunctionDef)}
        for name, node in nodes(ast.Call):
            if isinstance(node.func, ast.Attribute):
                self.assertIn(node.func.attr, METHODS | own, (name, node.lineno))

    def test_no_name_is_a_method_and_an_attribute(self):
        methods = {each.name for _, node in nodes(ast.ClassDef) for each in node.body
                   if isinstance(each, ast.FunctionDef)}
        attributes = {node.attr for _, node in nodes(ast.Attribute) if isinstance(node.ctx, ast.Store)}
        self.assertEqual(methods & attributes, set())

    def test_strings_and_numbers(self):
        for name, node in nodes(ast.Constant):
            self.assertNotIsInstance(node.value, (float, complex), name)
            if isinstance(node.value, str):
                self.assertNotIn("%", node.value, (name, node.lineno))
        self.assertEqual(nodes(ast.Div, ast.Global, ast.AsyncFunctionDef, ast.Await), [])

    def test_is_stands_beside_none_true_and_false_only(self):
        for name, node in nodes(ast.Compare):
            for sign, right in zip(node.ops, node.comparators):
                if isinstance(sign, (ast.Is, ast.IsNot)):
                    self.assertIsInstance(right, ast.Constant, (name, node.lineno))
                    self.assertIn(repr(right.value), ("None", "True", "False"), (name, node.lineno))


if __name__ == "__main__":
    unittest.main()
