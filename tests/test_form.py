"""The form of the package's files, as far as a small test can see it: rules of LANGUAGE.md by their numbers."""

import ast
import builtins
import re
import unittest
from pathlib import Path

PACKAGE = Path(__file__).resolve().parent.parent / "outlasts"
BUILTINS = set(
    "len range enumerate zip min max sum abs sorted reversed int str bool list tuple dict set isinstance ord repr any"
    " all divmod Exception ValueError TypeError KeyError IndexError LookupError ZeroDivisionError ArithmeticError"
    " OverflowError RuntimeError NotImplementedError NotImplemented super property staticmethod classmethod".split()
)
BARRED = (
    r"\b(type|typing|typing_extensions|enum|Enum|IntEnum|StrEnum|Flag|IntFlag|Generic|Protocol|ABC|ABCMeta|namedtuple"
    r"|NamedTuple|TypedDict|TYPE_CHECKING|abstractmethod)\b|dataclass|overload|contextmanager"
)
SPECIAL = re.compile(r"__[a-z]+__")
# Of L25, those of both lists.
OF_VALUES = set(
    "append clear copy count endswith extend find get index insert isalnum isalpha isdigit islower isspace isupper items"
    " join keys ljust lower lstrip partition pop remove replace reverse rfind rjust rpartition rsplit rstrip setdefault"
    " split splitlines startswith strip update upper values zfill bit_length title capitalize swapcase casefold center"
    " expandtabs removeprefix removesuffix rindex isascii isdecimal isnumeric istitle isidentifier isprintable".split()
)


def files():
    return sorted(path for path in PACKAGE.rglob("*") if "__pycache__" not in path.parts)


def trees():
    return [(path, ast.parse(path.read_text())) for path in files() if path.is_file()]


def nodes(*kinds):
    return [(path, node) for path, tree in trees() for node in ast.walk(tree) if isinstance(node, kinds)]


def bound_at_module_level(tree):
    names = []
    for row in tree.body:
        if isinstance(row, (ast.FunctionDef, ast.ClassDef)):
            names.append(row.name)
        elif isinstance(row, ast.ImportFrom):
            names.extend(alias.asname or alias.name for alias in row.names)
        elif isinstance(row, ast.Assign):
            names.extend(target.id for target in row.targets)
    return names


def own_methods():
    return {row.name for _, node in nodes(ast.ClassDef) for row in node.body if isinstance(row, ast.FunctionDef)}


def own_attributes():
    return {node.attr for _, node in nodes(ast.Attribute) if isinstance(node.ctx, ast.Store)}


def calls():
    """Each call with its file and the name that is called."""
    return [(path, node, getattr(node.func, "id", None) or getattr(node.func, "attr", None))
            for path, node in nodes(ast.Call)]


class Form(unittest.TestCase):
    def test_l1_l14_files(self):
        self.assertIn(PACKAGE / "__init__.py", files())
        for path in files():
            self.assertTrue(path.is_file() and re.fullmatch(r"[a-z0-9_]+\.py", path.name), path)
            self.assertTrue(set(path.read_bytes()) <= {10, *range(32, 127)}, path)

    def test_l10_size(self):
        for path in files():
            lines = path.read_text().split("\n")
            self.assertLessEqual(len(lines), 400, path)
            self.assertLessEqual(max(map(len, lines)), 120, path)
        for path, node in nodes(ast.FunctionDef):
            self.assertLessEqual(node.end_lineno - node.lineno + 1, 40, (path, node.name))

    def test_l2_l16_imports(self):
        self.assertEqual(nodes(ast.Import), [])
        defined = {f"outlasts.{path.stem}": tree for path, tree in trees()}
        for path, node in nodes(ast.ImportFrom):
            self.assertEqual((node.level, node.col_offset), (0, 0), path)
            own = [row.name for row in defined[node.module].body if isinstance(row, (ast.FunctionDef, ast.ClassDef))]
            values = [name for row in defined[node.module].body if isinstance(row, ast.Assign)
                      for name in bound_at_module_level(ast.Module([row], []))]
            for alias in node.names:
                self.assertIn(alias.name, own + values, (path, alias.name))

    def test_l3_l15_module_level(self):
        plain = (ast.ImportFrom, ast.FunctionDef, ast.ClassDef, ast.Assign)
        for path, tree in trees():
            self.assertIsNotNone(ast.get_docstring(tree), path)
            for row in tree.body[1:]:
                self.assertIsInstance(row, plain, path)
            names = bound_at_module_level(tree)
            self.assertEqual(len(names), len(set(names)), path)

    def test_l15_locals_have_names_of_their_own(self):
        for path, tree in trees():
            taken = set(dir(builtins))
            for row in tree.body:
                if isinstance(row, (ast.ImportFrom, ast.ClassDef)):
                    taken.update(bound_at_module_level(ast.Module([row], [])))
            for node in ast.walk(tree):
                if isinstance(node, ast.arg):
                    self.assertNotIn(node.arg, taken, (path, node.lineno))
                elif isinstance(node, ast.Name) and not isinstance(node.ctx, ast.Load):
                    self.assertNotIn(node.id, taken, (path, node.lineno))

    def test_l16_no_two_files_import_from_each_other(self):
        reached = {path.stem: {node.module.rpartition(".")[2] for node in ast.walk(tree)
                               if isinstance(node, ast.ImportFrom)} for path, tree in trees()}
        for _ in reached:
            reached = {name: near.union(*[reached[other] for other in near]) for name, near in reached.items()}
        for name, far in reached.items():
            self.assertNotIn(name, far)

    def test_l23_what_is_iterated_at_once(self):
        lazy = ("zip", "enumerate", "reversed", "range", "items", "keys", "values")
        for path, tree in trees():
            at_once = {id(node.iter) for node in ast.walk(tree) if isinstance(node, (ast.For, ast.comprehension))}
            at_once |= {id(part) for node in ast.walk(tree) if isinstance(node, ast.Call) for part in node.args}
            for node in ast.walk(tree):
                if isinstance(node, ast.Call):
                    name = getattr(node.func, "id", None) or getattr(node.func, "attr", None)
                    self.assertTrue(name not in lazy or id(node) in at_once, (path, node.lineno))

    def test_l6_l7_what_is_not_used(self):
        barred = (ast.Global, ast.AsyncFunctionDef, ast.AsyncFor, ast.AsyncWith, ast.Await, ast.Div, ast.MatMult)
        self.assertEqual(nodes(*barred), [])
        for path, node in nodes(ast.Constant):
            self.assertNotIsInstance(node.value, (float, complex), path)
            if isinstance(node.value, str):
                self.assertNotIn("%", node.value, path)

    def test_l7_no_generator_expressions(self):
        # A class with == or len bars them from any, all, sum and the like; lists do everywhere.
        self.assertEqual(nodes(ast.GeneratorExp), [])

    def test_l8_builtins(self):
        for path, tree in trees():
            stored = {node.id for node in ast.walk(tree) if isinstance(node, ast.Name)
                      and not isinstance(node.ctx, ast.Load)}
            taken = {node.arg for node in ast.walk(tree) if isinstance(node, ast.arg)}
            known = BUILTINS | stored | taken | set(bound_at_module_level(tree))
            self.assertEqual((stored | taken) & BUILTINS, set(), path)
            for node in ast.walk(tree):
                if isinstance(node, ast.Name):
                    self.assertIn(node.id, known, (path, node.lineno))

    def test_l12_plain_names(self):
        for path, node in nodes(ast.Name, ast.arg, ast.FunctionDef, ast.ClassDef, ast.Attribute):
            name = getattr(node, "id", None) or getattr(node, "arg", None) or getattr(node, "attr", None) or node.name
            self.assertTrue(not name.startswith("_") or SPECIAL.fullmatch(name), (path, name))

    def test_l17_words(self):
        for path in files():
            self.assertIsNone(re.search(BARRED, path.read_text()), path)

    def test_l20_is(self):
        for path, node in nodes(ast.Compare):
            for sign, right in zip(node.ops, node.comparators):
                if isinstance(sign, (ast.Is, ast.IsNot)):
                    self.assertTrue(isinstance(right, ast.Constant) and right.value in (None, True, False), path)

    def test_l5_l28_double_underscore_methods(self):
        for path, node in nodes(ast.ClassDef):
            special = {row.name: row for row in node.body
                       if isinstance(row, ast.FunctionDef) and SPECIAL.fullmatch(row.name)}
            self.assertLessEqual(set(special), {"__init__", "__eq__", "__repr__", "__len__"}, path)
            for name in set(special) - {"__init__"}:
                # One statement that returns changes nothing.
                self.assertEqual([type(row) for row in special[name].body], [ast.Return], (path, name))
            if "__len__" in special:
                self.assertEqual(special["__len__"].body[0].value.func.id, "len")
            if "__repr__" in special:
                self.assertIsInstance(special["__repr__"].body[0].value, ast.JoinedStr)
        for path, node in nodes(ast.FunctionDef):
            self.assertEqual(node.decorator_list, [], path)

    def test_l18_methods_and_attributes(self):
        self.assertEqual(own_methods() & own_attributes(), set())
        known = own_methods() | own_attributes() | OF_VALUES
        for path, node in nodes(ast.Attribute):
            self.assertIn(node.attr, known, (path, node.lineno))
            if isinstance(node.ctx, ast.Store):
                self.assertEqual(node.value.id, "self", (path, node.lineno))

    def test_l25_l26_own_methods_are_not_called_like_those_of_values(self):
        for name in own_methods() | own_attributes():
            for value in ("", 0, [], {}, set(), b"", ()):
                self.assertTrue(SPECIAL.fullmatch(name) or not hasattr(value, name), name)

    def test_l22_no_keywords_beside_plain_calls(self):
        for path, node, name in calls():
            self.assertEqual([word.arg for word in node.keywords], [], (path, node.lineno))

    def test_l4_plain_defaults(self):
        for path, node in nodes(ast.arguments):
            self.assertEqual((node.posonlyargs, node.kwonlyargs, node.vararg, node.kwarg), ([], [], None, None), path)
            for default in node.defaults:
                self.assertIsInstance(default, (ast.Constant, ast.Name), path)

    def test_l19_errors_are_raised_by_name_and_nothing_is_caught(self):
        self.assertEqual(nodes(ast.Try), [])
        for path, node in nodes(ast.Raise):
            self.assertIsInstance(node.exc, ast.Call, path)
            self.assertIsInstance(node.exc.func, ast.Name, path)

    def test_l24_sets_are_sorted_at_once(self):
        self.assertEqual(nodes(ast.Set, ast.SetComp), [])
        for path, tree in trees():
            at_once = {id(node.args[0]) for node in ast.walk(tree)
                       if isinstance(node, ast.Call) and getattr(node.func, "id", None) == "sorted"}
            for node in ast.walk(tree):
                if isinstance(node, ast.Call) and getattr(node.func, "id", None) == "set":
                    self.assertIn(id(node), at_once, (path, node.lineno))

    def test_l27_powers(self):
        for path, node in nodes(ast.BinOp):
            if isinstance(node.op, ast.Pow):
                self.assertTrue(isinstance(node.right, ast.Constant) and 0 <= node.right.value <= 64, path)

    def test_l22_own_functions_are_given_as_many_as_they_take(self):
        for path, tree in trees():
            taken = {row.name: row.args for row in tree.body if isinstance(row, ast.FunctionDef)}
            for node in ast.walk(tree):
                if isinstance(node, ast.Call) and getattr(node.func, "id", None) in taken:
                    args = taken[node.func.id]
                    most = len(args.args)
                    self.assertTrue(most - len(args.defaults) <= len(node.args) <= most, (path, node.lineno))

    def test_nothing_is_imported_that_is_not_used(self):
        for path, tree in trees():
            used = {node.id for node in ast.walk(tree) if isinstance(node, ast.Name)}
            for row in tree.body:
                if isinstance(row, ast.ImportFrom):
                    for alias in row.names:
                        self.assertIn(alias.name, used, (path, alias.name))

    def test_every_function_says_what_it_tells(self):
        for path, node in nodes(ast.FunctionDef, ast.ClassDef):
            if not SPECIAL.fullmatch(node.name):
                self.assertIsNotNone(ast.get_docstring(node), (path, node.name))


if __name__ == "__main__":
    unittest.main()
