"""Checks of the package's files against the rules of its language that a program can see."""

import ast
import builtins
import os
import re
import unittest

import handshaker

FOLDER = os.path.dirname(os.path.abspath(handshaker.__file__))
BUILTINS = {name for name in dir(builtins) if not name.startswith("__")}
ALLOWED_BUILTINS = set(
    "len range enumerate zip min max sum abs sorted reversed int str bool list tuple dict set isinstance ord repr "
    "any all divmod Exception ValueError TypeError KeyError IndexError LookupError".split())
ALLOWED_METHODS = set(
    "append clear copy count endswith extend find get index insert isalnum isalpha isdigit islower isspace isupper "
    "items join keys ljust lower lstrip partition pop remove replace reverse rfind rjust rpartition rsplit rstrip "
    "setdefault split splitlines startswith strip update upper values zfill add discard".split())
BARRED_NAMES = set(
    "register mro elements open input law version_info with_traceback add_note _cold _tuplegetter _outside _record "
    "_written_out _member_names map format iter next".split())
BARRED_WORDS = (
    "type typing typing_extensions enum Enum IntEnum StrEnum Flag IntFlag Generic Protocol ABC ABCMeta namedtuple "
    "NamedTuple TypedDict TYPE_CHECKING abstractmethod dataclass overload contextmanager _wall _WallAttr").split()
# Attributes with these names would look like methods of builtin values.
BARRED_ATTRIBUTES = set(
    "items keys values pop update append clear extend insert remove reverse setdefault sort args encode decode hex "
    "fromhex format real imag numerator denominator".split())
STATEMENTS = (
    ast.Assign, ast.AugAssign, ast.If, ast.While, ast.For, ast.Return, ast.Break, ast.Continue, ast.Pass, ast.Raise,
    ast.Assert, ast.Delete, ast.Try, ast.Expr, ast.FunctionDef, ast.ClassDef, ast.ImportFrom,
)
AT_ONCE = ("zip", "enumerate", "reversed", "range")
TAKERS = ("list", "tuple", "dict", "sorted", "sum", "any", "all", "enumerate", "zip", "len", "min", "max")


def sources():
    found = {}
    for name in sorted(os.listdir(FOLDER)):
        if name != "__pycache__":
            with open(os.path.join(FOLDER, name), encoding="utf-8", newline="") as file:
                found[name] = file.read()
    return found


SOURCES = sources()
TREES = {name: ast.parse(text) for name, text in SOURCES.items() if name.endswith(".py")}
DEFINED = {
    name: [node.name for node in tree.body if isinstance(node, (ast.FunctionDef, ast.ClassDef))]
    + [node.targets[0].id for node in tree.body if isinstance(node, ast.Assign)]
    for name, tree in TREES.items()
}
METHODS = {
    node.name for tree in TREES.values() for owner in ast.walk(tree) if isinstance(owner, ast.ClassDef)
    for node in owner.body if isinstance(node, ast.FunctionDef)
}
ERRORS = {
    name for name in DEFINED["errors.py"]
}


def nodes(kinds):
    for name, tree in TREES.items():
        for node in ast.walk(tree):
            if isinstance(node, kinds):
                yield f"{name}:{getattr(node, 'lineno', 0)}", node


def bound_names():
    """Every name that a file binds, with the place."""
    for place, node in nodes((ast.Name, ast.arg, ast.FunctionDef, ast.ClassDef, ast.alias, ast.ExceptHandler)):
        if isinstance(node, ast.Name):
            if isinstance(node.ctx, ast.Store):
                yield place, node.id
        elif isinstance(node, ast.arg):
            yield place, node.arg
        elif node.name is not None:
            yield place, node.name


class FilesTest(unittest.TestCase):
    def test_only_files_with_plain_names(self):
        self.assertIn("__init__.py", SOURCES)
        for name in SOURCES:
            self.assertRegex(name, r"\A([a-z][a-z0-9_]*|__init__)\.py\Z")
            self.assertNotIn(name[:-3], BUILTINS)

    def test_sizes_and_characters(self):
        for name, text in SOURCES.items():
            rows = text.split("\n")
            self.assertLess(len(rows), 400, name)
            self.assertTrue(all(character == "\n" or " " <= character <= "~" for character in text), name)
            self.assertTrue(all(len(row) <= 120 for row in rows), name)

    def test_functions_are_short(self):
        for place, node in nodes(ast.FunctionDef):
            self.assertLessEqual(node.end_lineno - node.lineno + 1, 40, place)

    def test_barred_words(self):
        for name, text in SOURCES.items():
            for word in BARRED_WORDS:
                self.assertIsNone(re.search(r"\b" + word + r"\b", text), f"{name}: {word}")

    def test_strings(self):
        for place, node in nodes(ast.Constant):
            if isinstance(node.value, str):
                self.assertNotIn("%", node.value, place)
            self.assertNotIsInstance(node.value, (float, complex), place)


class ModuleLevelTest(unittest.TestCase):
    def test_what_stands_there(self):
        for name, tree in TREES.items():
            begun = False
            bound = []
            for at, node in enumerate(tree.body):
                place = f"{name}:{node.lineno}"
                if isinstance(node, ast.ImportFrom):
                    self.assertFalse(begun, place)
                    bound += [alias.name for alias in node.names]
                elif isinstance(node, ast.Expr):
                    self.assertTrue(at == 0 and isinstance(node.value, ast.Constant), place)
                else:
                    begun = True
                    self.assertIsInstance(node, (ast.FunctionDef, ast.ClassDef, ast.Assign), place)
                    if isinstance(node, ast.Assign):
                        self.assertEqual(len(node.targets), 1, place)
                        bound.append(node.targets[0].id)
                        for part in ast.walk(node.value):
                            self.assertNotIsInstance(part, (ast.Call, ast.Lambda, ast.Subscript, ast.Set), place)
                    else:
                        bound.append(node.name)
            self.assertEqual(len(bound), len(set(bound)), name)

    def test_imports(self):
        needs = {}
        for name, tree in TREES.items():
            needs[name] = []
            for node in ast.walk(tree):
                self.assertNotIsInstance(node, ast.Import, name)
                if isinstance(node, ast.ImportFrom):
                    self.assertEqual(node.level, 0, name)
                    self.assertRegex(node.module, r"\Ahandshaker\.[a-z]+\Z")
                    source = node.module.split(".")[1] + ".py"
                    needs[name].append(source)
                    for alias in node.names:
                        self.assertIn(alias.name, DEFINED[source], name)
                        self.assertIsNone(alias.asname, name)
        while needs:
            free = [name for name in needs if not any(other in needs for other in needs[name])]
            self.assertNotEqual(free, [], f"files import from each other: {sorted(needs)}")
            for name in free:
                del needs[name]

    def test_imports_are_used(self):
        for name, tree in TREES.items():
            used = {node.id for node in ast.walk(tree) if isinstance(node, ast.Name)}
            for node in tree.body:
                if isinstance(node, ast.ImportFrom):
                    for alias in node.names:
                        self.assertIn(alias.name, used, name)

    def test_tables_are_only_read(self):
        for name, tree in TREES.items():
            tables = [node.targets[0].id for node in tree.body
                      if isinstance(node, ast.Assign) and isinstance(node.value, (ast.List, ast.Dict))]
            read = [part.value.id for node in ast.walk(tree) for part in [node]
                    if isinstance(part, (ast.Subscript, ast.Attribute)) and isinstance(part.value, ast.Name)]
            tested = [right.id for node in ast.walk(tree) if isinstance(node, ast.Compare)
                      for right in node.comparators if isinstance(right, ast.Name)]
            for table in tables:
                uses = [node for node in ast.walk(tree) if isinstance(node, ast.Name) and node.id == table]
                self.assertEqual(len(uses) - 1, read.count(table) + tested.count(table), f"{name}: {table}")


class CodeTest(unittest.TestCase):
    def test_statements(self):
        for place, node in nodes(ast.stmt):
            self.assertIsInstance(node, STATEMENTS, place)
        for place, node in nodes(ast.Expr):
            self.assertIsInstance(node.value, (ast.Call, ast.Constant), place)

    def test_functions_have_no_decorators_and_annotations(self):
        for place, node in nodes((ast.FunctionDef, ast.ClassDef)):
            self.assertEqual(node.decorator_list, [], place)
        for place, node in nodes(ast.arg):
            self.assertIsNone(node.annotation, place)
        for place, node in nodes(ast.FunctionDef):
            self.assertIsNone(node.returns, place)
            self.assertIsNone(node.args.vararg, place)
            for default in node.args.defaults:
                self.assertIsInstance(default, (ast.Constant, ast.Tuple), place)

    def test_bound_names(self):
        for place, name in bound_names():
            self.assertNotIn(name, BUILTINS, place)
            self.assertNotIn(name, BARRED_NAMES, place)
            self.assertRegex(name, r"\A(_|_?[A-Za-z][A-Za-z0-9_]*|__init__)\Z", place)

    def test_no_local_name_is_that_of_a_class_or_import(self):
        for name, tree in TREES.items():
            taken = [alias.name for node in tree.body if isinstance(node, ast.ImportFrom) for alias in node.names]
            taken += [node.name for node in tree.body if isinstance(node, ast.ClassDef)]
            for node in ast.walk(tree):
                if isinstance(node, ast.arg):
                    self.assertNotIn(node.arg, taken, f"{name}:{node.lineno}")
                if isinstance(node, ast.Name) and isinstance(node.ctx, ast.Store):
                    self.assertNotIn(node.id, taken, f"{name}:{node.lineno}")

    def test_builtins(self):
        own = {name for _, name in bound_names()}
        for place, node in nodes(ast.Name):
            if isinstance(node.ctx, ast.Load) and node.id not in own:
                self.assertIn(node.id, ALLOWED_BUILTINS, place)

    def test_methods(self):
        for place, node in nodes(ast.Call):
            if isinstance(node.func, ast.Attribute):
                self.assertIn(node.func.attr, ALLOWED_METHODS | METHODS, place)

    def test_attributes(self):
        assigned = {node.attr for _, node in nodes(ast.Attribute) if isinstance(node.ctx, ast.Store)}
        self.assertEqual(assigned & BARRED_ATTRIBUTES, set())
        for place, node in nodes(ast.Attribute):
            self.assertIn(node.attr, assigned | METHODS | ALLOWED_METHODS, place)

    def test_no_name_is_a_method_and_an_attribute_in_a_family(self):
        families = {}
        for place, owner in nodes(ast.ClassDef):
            methods = {node.name for node in owner.body if isinstance(node, ast.FunctionDef)}
            assigned = {node.attr for node in ast.walk(owner) if isinstance(node, ast.Attribute)
                        and isinstance(node.ctx, ast.Store) and node.value.id == "self"}
            families[owner.name] = (methods, assigned, [base.id for base in owner.bases if base.id != "ValueError"])
        for name, (methods, assigned, bases) in families.items():
            self.assertEqual(methods & assigned, set(), name)
            while bases:
                above, set_above, bases = families[bases[0]]
                self.assertEqual(methods & set_above | assigned & above, set(), name)

    def test_no_method_is_read_off_a_class(self):
        owners = {node.name for _, node in nodes(ast.ClassDef)}
        for place, node in nodes(ast.Attribute):
            if isinstance(node.value, ast.Name):
                self.assertNotIn(node.value.id, owners, place)

    def test_methods_are_called_where_they_stand(self):
        called = {id(node.func) for _, node in nodes(ast.Call)}
        assigned = {node.attr for _, node in nodes(ast.Attribute) if isinstance(node.ctx, ast.Store)}
        for place, node in nodes(ast.Attribute):
            if node.attr in METHODS - assigned:
                self.assertIn(id(node), called, place)

    def test_classes(self):
        for place, node in nodes(ast.ClassDef):
            self.assertNotEqual(node.name[0], "_", place)
            for part in node.body:
                self.assertIsInstance(part, (ast.FunctionDef, ast.Expr), place)
                if isinstance(part, ast.FunctionDef) and part.name.startswith("__"):
                    self.assertEqual(part.name, "__init__", place)

    def test_identity(self):
        for place, node in nodes(ast.Compare):
            for operator, right in zip(node.ops, node.comparators):
                if isinstance(operator, (ast.Is, ast.IsNot)):
                    self.assertIsInstance(right, ast.Constant, place)

    def test_operators(self):
        for place, node in nodes((ast.BinOp, ast.AugAssign)):
            self.assertNotIsInstance(node.op, (ast.Div, ast.MatMult, ast.Pow), place)

    def test_raise_creates_its_error(self):
        for place, node in nodes(ast.Raise):
            self.assertIsInstance(node.exc, ast.Call, place)
            self.assertIn(node.exc.func.id, ERRORS, place)
        for place, node in nodes(ast.ExceptHandler):
            self.assertIn(node.type.id, ERRORS | {"KeyError", "ZeroDivisionError"}, place)

    def test_iterated_at_once(self):
        good = []
        for _, node in nodes((ast.For, ast.comprehension)):
            good.append(node.iter)
        for _, node in nodes(ast.Call):
            if isinstance(node.func, ast.Name) and node.func.id in TAKERS:
                good += node.args[:2] if node.func.id == "zip" else node.args[:1]
        seen = {id(node) for node in good}
        for place, node in nodes(ast.Call):
            called = node.func.id if isinstance(node.func, ast.Name) else ""
            if isinstance(node.func, ast.Attribute) and node.func.attr in ("items", "keys", "values"):
                called = "range"
            if called in AT_ONCE:
                self.assertIn(id(node), seen, place)

    def test_sets_are_used_on_the_spot(self):
        good = {id(node.args[0]) for _, node in nodes(ast.Call)
                if isinstance(node.func, ast.Name) and node.func.id in ("sorted", "len") and not node.keywords}
        for place, node in nodes((ast.SetComp, ast.Call)):
            if isinstance(node, ast.SetComp) or isinstance(node.func, ast.Name) and node.func.id == "set":
                self.assertIn(id(node), good, place)

    def test_neither_generators_nor_literal_sets(self):
        for place, node in nodes((ast.Set, ast.Await, ast.YieldFrom, ast.Yield)):
            self.fail(place)

    def test_generator_expressions_stand_in_calls_of_builtins(self):
        good = {id(node.args[0]) for _, node in nodes(ast.Call) if len(node.args) == 1
                and isinstance(node.func, ast.Name) and node.func.id in TAKERS}
        for place, node in nodes(ast.GeneratorExp):
            self.assertIn(id(node), good, place)


if __name__ == "__main__":
    unittest.main()
