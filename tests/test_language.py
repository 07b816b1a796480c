"""The rules of LANGUAGE.md that can be seen in the package's text, L1 to L28.

What is not checked here (that a name is handed on as a copy, say) is left to the reader.
"""

import ast
import builtins
import pathlib
import re
import unittest

PACKAGE = pathlib.Path(__file__).resolve().parent.parent / "halfask"

OWN_NAMES = set(
    "len range enumerate zip min max sum abs sorted reversed int str bool list tuple dict set frozenset "
    "isinstance ord repr any all divmod Exception ValueError TypeError KeyError IndexError LookupError "
    "ZeroDivisionError ArithmeticError OverflowError RuntimeError NotImplementedError AttributeError "
    "StopIteration".split()
)
METHODS = set(
    "append clear copy count endswith extend find get index insert isalnum isalpha isdigit islower isspace "
    "isupper items join keys ljust lower lstrip partition pop remove replace reverse rfind rjust rpartition "
    "rsplit rstrip setdefault split splitlines startswith strip update upper values zfill bit_length".split()
)
DUNDERS = set("__init__ __eq__ __repr__ __str__ __len__".split())
NEVER_NAMES = set(
    "register mro elements open input version_info with_traceback add_note format format_map sort args encode".split()
)
WORDS = re.compile(
    r"\b(type|typing|typing_extensions|enum|Enum|IntEnum|StrEnum|Flag|IntFlag|Generic|Protocol|ABC|ABCMeta|"
    r"namedtuple|NamedTuple|TypedDict|TYPE_CHECKING|abstractmethod)\b|dataclass|overload|contextmanager"
)
STATEMENTS = (
    ast.Assign, ast.AugAssign, ast.If, ast.While, ast.For, ast.Return, ast.Break, ast.Continue, ast.Pass,
    ast.Raise, ast.Try, ast.Expr, ast.FunctionDef, ast.ClassDef, ast.ImportFrom,
)
NEVER_NODES = (
    ast.SetComp, ast.DictComp, ast.GeneratorExp, ast.NamedExpr, ast.Starred, ast.Div, ast.MatMult, ast.Await,
    ast.Yield, ast.YieldFrom,
)


def files():
    return sorted(path for path in PACKAGE.rglob("*") if "__pycache__" not in path.parts)


def trees():
    return [(path.name, ast.parse(path.read_text(encoding="utf-8"))) for path in files()]


def nodes(kind):
    found = []
    for name, tree in trees():
        found.extend((f"{name}:{getattr(node, 'lineno', '?')}", node) for node in ast.walk(tree) if isinstance(node, kind))
    return found


def bound_names():
    """Every name that the package gives to anything, with the place where it does."""
    found = []
    for place, node in nodes((ast.Name, ast.arg, ast.FunctionDef, ast.ClassDef, ast.Attribute)):
        if isinstance(node, ast.arg):
            found.append((place, node.arg))
        elif isinstance(node, (ast.FunctionDef, ast.ClassDef)):
            found.append((place, node.name))
        elif isinstance(node.ctx, ast.Store):
            found.append((place, node.id if isinstance(node, ast.Name) else node.attr))
    return found


class TextTest(unittest.TestCase):
    def test_files(self):
        self.assertTrue(files())
        for path in files():
            self.assertRegex(path.name, r"^[a-z_][a-z0-9_]*\.py$")
        self.assertIn(PACKAGE / "__init__.py", files())

    def test_signs_words_and_size(self):
        for path in files():
            text = path.read_text(encoding="utf-8")
            self.assertRegex(text, r"^[ -~\n]*$", path.name)
            self.assertIsNone(WORDS.search(text), path.name)
            rows = text.split("\n")
            self.assertLessEqual(len(rows), 400, path.name)
            self.assertLessEqual(max(len(row) for row in rows), 120, path.name)

    def test_size_of_functions(self):
        for place, node in nodes(ast.FunctionDef):
            self.assertLessEqual(node.end_lineno - node.lineno + 1, 40, place)


class FormTest(unittest.TestCase):
    def test_imports_are_of_the_package_alone(self):
        self.assertEqual(nodes(ast.Import), [])
        modules = {f"halfask.{path.stem}" for path in files()}
        for place, node in nodes(ast.ImportFrom):
            self.assertEqual(node.level, 0, place)
            self.assertIn(node.module, modules, place)
            self.assertNotIn("*", [alias.name for alias in node.names], place)

    def test_no_two_files_draw_from_one_another(self):
        drawn = {}
        for path in files():
            tree = ast.parse(path.read_text(encoding="utf-8"))
            drawn[f"halfask.{path.stem}"] = {part.module for part in tree.body if isinstance(part, ast.ImportFrom)}
        while drawn:
            ready = [module for module in drawn if not drawn[module] & set(drawn)]
            self.assertTrue(ready, drawn)
            for module in ready:
                drawn.pop(module)

    def test_names_are_drawn_from_the_file_that_defines_them(self):
        for place, node in nodes(ast.ImportFrom):
            tree = ast.parse((PACKAGE / (node.module.split(".")[1] + ".py")).read_text(encoding="utf-8"))
            defined = [part.name for part in tree.body if isinstance(part, (ast.FunctionDef, ast.ClassDef))]
            defined += [part.targets[0].id for part in tree.body if isinstance(part, ast.Assign)]
            for alias in node.names:
                self.assertIn(alias.name, defined, place)

    def test_walks_are_walked_at_once(self):
        allowed = []
        for place, node in nodes((ast.For, ast.comprehension)):
            allowed.append(ast.dump(node.iter, include_attributes=True))
        for place, node in nodes(ast.Call):
            if isinstance(node.func, ast.Name) and node.args:
                if node.func.id in "list tuple dict sorted sum any all enumerate zip".split() or len(node.args) == 1:
                    allowed.append(ast.dump(node.args[0], include_attributes=True))
        for place, node in nodes(ast.Call):
            called = node.func.id if isinstance(node.func, ast.Name) else getattr(node.func, "attr", "")
            if called in "zip enumerate reversed range items keys values".split():
                self.assertIn(ast.dump(node, include_attributes=True), allowed, place)

    def test_keywords(self):
        for place, node in nodes(ast.Call):
            if node.keywords:
                self.assertIn(getattr(node.func, "id", ""), ("sorted", "min", "max", "sum", "enumerate", "zip"), place)

    def test_statements(self):
        for place, node in nodes(ast.stmt):
            self.assertIsInstance(node, STATEMENTS, place)
            self.assertFalse(getattr(node, "finalbody", []), place)
            if isinstance(node, (ast.For, ast.While)):
                self.assertEqual(node.orelse, [], place)
            if isinstance(node, ast.Assign):
                self.assertEqual(len(node.targets), 1, place)

    def test_calls_stand_by_themselves_and_nothing_else_but_the_docstrings_of_modules(self):
        for name, tree in trees():
            for node in ast.walk(tree):
                if isinstance(node, ast.Expr) and node is not tree.body[0]:
                    self.assertIsInstance(node.value, ast.Call, f"{name}:{node.lineno}")

    def test_expressions(self):
        self.assertEqual(nodes(NEVER_NODES), [])
        for place, node in nodes(ast.Constant):
            self.assertIn(type(node.value).__name__, ("int", "str", "bool", "NoneType"), place)
        for place, node in nodes(ast.ListComp):
            self.assertEqual(len(node.generators), 1, place)
            self.assertLessEqual(len(node.generators[0].ifs), 1, place)
        for place, node in nodes(ast.FormattedValue):
            self.assertIsInstance(node.value, ast.Name, place)

    def test_is_stands_beside_none_true_and_false(self):
        for place, node in nodes(ast.Compare):
            if any(isinstance(sign, (ast.Is, ast.IsNot)) for sign in node.ops):
                self.assertIsInstance(node.comparators[0], ast.Constant, place)

    def test_functions_and_classes_are_plain(self):
        for place, node in nodes((ast.FunctionDef, ast.ClassDef)):
            self.assertEqual(node.decorator_list, [], place)
        for place, node in nodes(ast.arguments):
            self.assertEqual((node.vararg, node.kwarg, node.kwonlyargs, node.posonlyargs), (None, None, [], []), place)
        for place, node in nodes(ast.ClassDef):
            self.assertLessEqual(len(node.bases), 1, place)
            for part in node.body:
                self.assertIsInstance(part, (ast.FunctionDef, ast.Pass), place)


class NamesTest(unittest.TestCase):
    def test_bound_names_are_plain(self):
        for place, name in bound_names():
            if name in DUNDERS:
                continue
            self.assertRegex(name, r"^[A-Za-z][A-Za-z0-9_]*$", place)
            self.assertNotIn(name, NEVER_NAMES, place)
            self.assertNotIn(name, vars(builtins), place)

    def test_only_listed_names_of_pythons_own_are_used(self):
        for place, node in nodes(ast.Name):
            if node.id in vars(builtins):
                self.assertIn(node.id, OWN_NAMES, place)

    def test_methods_are_listed_or_the_packages_own(self):
        own = {node.name for place, node in nodes(ast.FunctionDef)}
        for place, node in nodes(ast.Call):
            if isinstance(node.func, ast.Attribute):
                self.assertIn(node.func.attr, METHODS | own, place)

    def test_no_name_is_a_method_here_and_a_value_there(self):
        methods = {part.name for place, node in nodes(ast.ClassDef) for part in node.body if hasattr(part, "name")}
        values = {node.attr for place, node in nodes(ast.Attribute) if isinstance(node.ctx, ast.Store)}
        self.assertEqual(methods & values, set())

    def test_no_local_is_called_like_a_class_or_an_import_of_its_file(self):
        for name, tree in trees():
            top = [part.name for part in tree.body if isinstance(part, ast.ClassDef)]
            for part in tree.body:
                if isinstance(part, ast.ImportFrom):
                    top.extend(alias.asname or alias.name for alias in part.names)
            for node in ast.walk(tree):
                if isinstance(node, ast.arg):
                    self.assertNotIn(node.arg, top, f"{name}:{node.lineno}")
                if isinstance(node, ast.Name) and isinstance(node.ctx, ast.Store):
                    self.assertNotIn(node.id, top, f"{name}:{node.lineno}")

    def test_names_of_a_files_top_are_bound_once(self):
        for name, tree in trees():
            top = []
            for part in tree.body:
                if isinstance(part, (ast.FunctionDef, ast.ClassDef)):
                    top.append(part.name)
                elif isinstance(part, ast.ImportFrom):
                    top.extend(alias.asname or alias.name for alias in part.names)
                elif isinstance(part, ast.Assign):
                    top.append(part.targets[0].id)
            self.assertEqual(len(set(top)), len(top), name)

    def test_values_are_given_through_a_local_name(self):
        for place, node in nodes(ast.Attribute):
            if isinstance(node.ctx, ast.Store):
                self.assertIsInstance(node.value, ast.Name, place)

    def test_errors_of_pythons_own_are_not_taken_at_large(self):
        for place, node in nodes(ast.ExceptHandler):
            self.assertIsInstance(node.type, (ast.Name, ast.Tuple), place)
            self.assertNotIn(ast.unparse(node.type), ("Exception", "TypeError"), place)


if __name__ == "__main__":
    unittest.main()
