"""Tests that the files of the package keep to the plain part of Python that the project uses."""

import ast
import builtins
import pathlib
import re
import unittest

PACKAGE = pathlib.Path(__file__).resolve().parent.parent / "whatiftimes"

BUILTINS = set("""len range enumerate zip min max sum abs sorted reversed int str bool bytes list tuple dict set
    frozenset isinstance ord repr any all divmod iter next property staticmethod classmethod super NotImplemented
    Exception ValueError TypeError KeyError IndexError LookupError ZeroDivisionError ArithmeticError OverflowError
    RuntimeError NotImplementedError AttributeError StopIteration""".split())

METHODS = set("""append clear copy count endswith extend find get index insert isalnum isalpha isdigit islower isspace
    isupper items join keys ljust lower lstrip partition pop remove replace reverse rfind rjust rpartition rsplit rstrip
    setdefault split splitlines startswith strip update upper values zfill bit_length title capitalize swapcase casefold
    center expandtabs removeprefix removesuffix rindex isascii isdecimal isnumeric istitle isidentifier isprintable
    translate maketrans sort add discard encode decode hex""".split())

SPECIAL_METHODS = set("""__init__ __eq__ __repr__ __str__ __len__ __enter__ __exit__ __call__ __iter__ __lt__ __le__
    __gt__ __ge__ __ne__ __add__ __sub__ __mul__ __and__ __or__ __xor__ __neg__ __bool__ __contains__ __getitem__
    __setitem__""".split())

BARRED_WORDS = set("""type typing typing_extensions enum Enum IntEnum StrEnum Flag IntFlag Generic Protocol ABC ABCMeta
    namedtuple NamedTuple TypedDict TYPE_CHECKING abstractmethod""".split())

BARRED_NAMES = set("""register mro elements open input version_info with_traceback add_note attrgetter breakpoint
    builtins compile copyright credits delattr dir eval exec exit gc getattr globals hasattr help id importlib license
    locals methodcaller os quit setattr type vars sys""".split())

CHANGING = {"append", "clear", "extend", "insert", "pop", "remove", "reverse", "setdefault", "update"}

BARRED_NODES = (ast.Global, ast.AsyncFunctionDef, ast.AsyncFor, ast.AsyncWith, ast.Await, ast.Import, ast.Div)

FUNCTIONS = (ast.FunctionDef, ast.Lambda)


def sources():
    return sorted(PACKAGE.rglob("*.py"))


def trees():
    return {path.stem: ast.parse(path.read_text()) for path in sources()}


def bound_names(tree):
    """All names that a file binds anywhere: definitions, imports, parameters, variables, caught errors."""
    found = set()
    for node in ast.walk(tree):
        if isinstance(node, (ast.FunctionDef, ast.ClassDef)):
            found.add(node.name)
        elif isinstance(node, ast.alias):
            found.add(node.asname or node.name)
        elif isinstance(node, ast.arg):
            found.add(node.arg)
        elif isinstance(node, ast.Name) and not isinstance(node.ctx, ast.Load):
            found.add(node.id)
        elif isinstance(node, ast.ExceptHandler) and node.name:
            found.add(node.name)
    return found


def method_nodes(tree):
    return [node for owner in ast.walk(tree) if isinstance(owner, ast.ClassDef)
            for node in owner.body if isinstance(node, ast.FunctionDef)]


def reached_by_operators():
    """The names of all functions and methods that operators and properties call, and the bodies behind names."""
    bodies = {}
    reached = set()
    for tree in trees().values():
        for node in ast.walk(tree):
            if isinstance(node, ast.FunctionDef) and node.name != "__init__":
                bodies.setdefault(node.name, []).append(node)
                plain = any(isinstance(each, ast.Name) and each.id == "property" for each in node.decorator_list)
                if plain or node.name in SPECIAL_METHODS - {"__call__"}:
                    reached.add(node.name)
            elif isinstance(node, ast.FunctionDef):
                # What creates an object assigns its attributes; what it calls changes nothing either.
                reached |= called_names(node) & {"are_pieces", "shortest"}
    open_names = list(reached)
    while open_names:
        for body in bodies[open_names.pop()]:
            new = (called_names(body) & set(bodies)) - reached
            reached |= new
            open_names += new
    return reached, bodies


def called_names(body):
    found = set()
    for node in ast.walk(body):
        if isinstance(node, ast.Call) and isinstance(node.func, ast.Name):
            found.add(node.func.id)
        elif isinstance(node, ast.Call) and isinstance(node.func, ast.Attribute):
            found.add(node.func.attr)
    return found


def top_names(tree):
    return {node.name for node in tree.body if isinstance(node, (ast.FunctionDef, ast.ClassDef))} | {
        target.id for node in tree.body if isinstance(node, ast.Assign) for target in node.targets}


class Files(unittest.TestCase):
    def test_only_sources_with_plain_names(self):
        for path in PACKAGE.rglob("*"):
            if "__pycache__" not in path.parts:
                self.assertRegex(path.name, r"^(__init__|__main__|[a-z][a-z0-9_]*)\.py$")
        self.assertTrue((PACKAGE / "__init__.py").is_file())

    def test_sizes(self):
        for path in sources():
            lines = path.read_text().split("\n")
            self.assertLessEqual(len(lines), 400, path)
            for line in lines:
                self.assertLessEqual(len(line), 120, (path, line))
            for node in ast.walk(ast.parse(path.read_text())):
                if isinstance(node, ast.FunctionDef):
                    self.assertLessEqual(node.end_lineno - node.lineno + 1, 40, (path, node.name))

    def test_characters_and_words(self):
        for path in sources():
            text = path.read_bytes().decode("utf-8")
            self.assertRegex(text, r"\A[ -~\n]*\Z", path)
            self.assertEqual(set(re.findall(r"\w+", text)) & BARRED_WORDS, set(), path)
            self.assertIsNone(re.search("dataclass|overload|contextmanager", text), path)


class Statements(unittest.TestCase):
    def test_module_level(self):
        allowed = (ast.ImportFrom, ast.FunctionDef, ast.ClassDef, ast.Assign)
        for name, tree in trees().items():
            for at, node in enumerate(tree.body):
                docstring = at == 0 and isinstance(node, ast.Expr) and isinstance(node.value, ast.Constant)
                self.assertTrue(docstring or isinstance(node, allowed), (name, node.lineno))

    def test_barred_nodes(self):
        for name, tree in trees().items():
            for node in ast.walk(tree):
                self.assertNotIsInstance(node, BARRED_NODES, (name, getattr(node, "lineno", None)))
                if isinstance(node, ast.Constant):
                    self.assertNotIsInstance(node.value, (float, complex), (name, node.lineno))
                    if isinstance(node.value, str):
                        self.assertNotIn("%", node.value, (name, node.lineno))

    def test_is_only_with_constants(self):
        for name, tree in trees().items():
            for node in ast.walk(tree):
                if isinstance(node, ast.Compare):
                    for operator, right in zip(node.ops, node.comparators):
                        if isinstance(operator, (ast.Is, ast.IsNot)):
                            self.assertIsInstance(right, ast.Constant, (name, node.lineno))
                            self.assertIn(right.value, (None, True, False), (name, node.lineno))

    def test_no_generator_expressions_and_no_sort(self):
        # Beside classes that compare and have operators these would need lists, so none is used at all.
        for name, tree in trees().items():
            for node in ast.walk(tree):
                self.assertNotIsInstance(node, ast.GeneratorExp, (name, getattr(node, "lineno", None)))
                self.assertFalse(isinstance(node, ast.Attribute) and node.attr == "sort", name)

    def test_operators_change_nothing(self):
        """Nothing that an operator, ==, len or a property reaches assigns an attribute or an item, but __init__."""
        reached, bodies = reached_by_operators()
        self.assertIn("shortest", reached)
        for name in reached:
            for body in bodies[name]:
                made = {node.targets[0].id for node in ast.walk(body) if isinstance(node, ast.Assign)
                        and isinstance(node.targets[0], ast.Name) and isinstance(node.value, (ast.List, ast.ListComp))}
                parameters = {node.arg for node in body.args.args}
                for node in ast.walk(body):
                    if isinstance(node, (ast.Attribute, ast.Subscript)):
                        self.assertIsInstance(node.ctx, ast.Load, (name, node.lineno))
                    if isinstance(node, ast.Call) and isinstance(node.func, ast.Attribute) and node.func.attr in CHANGING:
                        self.assertIn(node.func.value.id, made, (name, node.lineno))
                    if isinstance(node, ast.Call) and isinstance(node.func, ast.Name):
                        self.assertNotIn(node.func.id, parameters, (name, node.lineno))

    def test_finally_only_assigns_what_was_there(self):
        found = 0
        for name, tree in trees().items():
            for block in [node.finalbody for node in ast.walk(tree) if isinstance(node, ast.Try)]:
                for node in block:
                    found += 1
                    self.assertIsInstance(node, ast.Assign, (name, node.lineno))
                    values = node.value.elts if isinstance(node.value, ast.Tuple) else [node.value]
                    self.assertTrue(all(isinstance(value, ast.Name) for value in values), (name, node.lineno))
        self.assertEqual(found, 2)

    def test_own_functions_in_tables_are_called_by_a_name(self):
        for name, tree in trees().items():
            for node in ast.walk(tree):
                if isinstance(node, ast.Call):
                    self.assertIsInstance(node.func, (ast.Name, ast.Attribute), (name, node.lineno))

    def test_stars_in_calls_stand_before_names(self):
        for name, tree in trees().items():
            for node in ast.walk(tree):
                if isinstance(node, ast.Call):
                    for star in [each for each in node.args if isinstance(each, ast.Starred)]:
                        self.assertIsInstance(star.value, ast.Name, (name, node.lineno))

    def test_special_methods(self):
        for name, tree in trees().items():
            for node in ast.walk(tree):
                if isinstance(node, ast.FunctionDef) and node.name.startswith("__"):
                    self.assertIn(node.name, SPECIAL_METHODS, (name, node.lineno))


class Imports(unittest.TestCase):
    def test_each_name_from_the_file_that_defines_it(self):
        files = trees()
        for name, tree in files.items():
            for node in ast.walk(tree):
                if isinstance(node, ast.ImportFrom):
                    self.assertIn(node, tree.body, (name, node.lineno))
                    package, dot, module = (node.module or "").partition(".")
                    self.assertEqual((node.level, package), (0, "whatiftimes"), (name, node.lineno))
                    for alias in node.names:
                        self.assertIn(alias.name, top_names(files[module]), (name, node.lineno))

    def test_no_circles(self):
        needs = {name: {node.module.partition(".")[2] for node in tree.body if isinstance(node, ast.ImportFrom)}
                 for name, tree in trees().items()}
        while needs:
            free = [name for name in needs if not needs[name] & set(needs)]
            self.assertTrue(free, needs)
            needs = {name: needs[name] for name in needs if name not in free}


class Names(unittest.TestCase):
    def test_only_the_listed_builtins(self):
        for name, tree in trees().items():
            known = bound_names(tree) | BUILTINS
            for node in ast.walk(tree):
                if isinstance(node, ast.Name):
                    self.assertIn(node.id, known, (name, node.lineno))

    def test_bound_names(self):
        for name, tree in trees().items():
            methods = {node.name for node in method_nodes(tree)}
            for each in bound_names(tree) - methods:
                self.assertRegex(each, r"^[A-Za-z][A-Za-z0-9_]*$", name)
                self.assertFalse(hasattr(builtins, each), (name, each))
                self.assertNotIn(each, BARRED_NAMES, name)

    def test_no_local_name_of_a_class_or_an_import(self):
        for name, tree in trees().items():
            taken = {node.name for node in tree.body if isinstance(node, ast.ClassDef)}
            taken |= {alias.name for node in tree.body if isinstance(node, ast.ImportFrom) for alias in node.names}
            for function in ast.walk(tree):
                if isinstance(function, FUNCTIONS):
                    for node in ast.walk(function):
                        if isinstance(node, ast.arg):
                            self.assertNotIn(node.arg, taken, (name, node.lineno))
                        if isinstance(node, ast.Name) and not isinstance(node.ctx, ast.Load):
                            self.assertNotIn(node.id, taken, (name, node.lineno))

    def test_only_the_listed_methods(self):
        files = trees()
        own = {node.name for tree in files.values() for node in method_nodes(tree)}
        stored = {node.attr for tree in files.values() for node in ast.walk(tree)
                  if isinstance(node, ast.Attribute) and isinstance(node.ctx, ast.Store)}
        self.assertEqual(own & stored, set())
        for name, tree in files.items():
            for node in ast.walk(tree):
                if isinstance(node, ast.Attribute):
                    self.assertIn(node.attr, METHODS | own | stored, (name, node.lineno))


if __name__ == "__main__":
    unittest.main()
