"""The files of the package: the rules of the language that can be read off them one by one."""

import ast
import builtins
import re
import unittest
import warnings
from pathlib import Path

PACKAGE = Path(__file__).resolve().parent.parent / "nextsuch"

LIBRARY = {
    "heapq": {"heappush", "heappop", "heapify", "heapreplace", "heappushpop"},
    "math": {"gcd", "lcm", "isqrt", "comb", "perm", "factorial"},
    "itertools": {"product", "combinations", "permutations", "chain", "accumulate", "pairwise", "islice",
                  "zip_longest"},
    "collections": {"defaultdict"},
}

BUILTINS = set("""
    len range enumerate zip min max sum abs sorted reversed int str bool list tuple dict set frozenset isinstance ord
    repr any all divmod pow getattr hasattr setattr iter next map object Exception ValueError TypeError KeyError
    IndexError LookupError ZeroDivisionError ArithmeticError OverflowError RuntimeError NotImplementedError
    AttributeError StopIteration NotImplemented
""".split())

METHODS = set("""
    append clear copy count endswith extend find get index insert isalnum isalpha isdigit islower isspace isupper items
    join keys ljust lower lstrip partition pop remove replace reverse rfind rjust rpartition rsplit rstrip setdefault
    split splitlines startswith strip update upper values zfill bit_length add discard sort isascii isdecimal
    removeprefix removesuffix rindex __init__
""".split())

BARRED = set("""
    typing typing_extensions enum Enum IntEnum StrEnum Flag IntFlag Generic Protocol ABC ABCMeta namedtuple NamedTuple
    TypedDict TYPE_CHECKING abstractmethod register mro elements open input law version_info with_traceback add_note
    type eval exec exit globals locals vars id dir compile quit help license copyright credits
""".split())

STATEMENTS = (
    ast.Assign, ast.AugAssign, ast.If, ast.While, ast.For, ast.Return, ast.Break, ast.Continue, ast.Pass, ast.Raise,
    ast.Assert, ast.Delete, ast.Nonlocal, ast.Match, ast.With, ast.Try, ast.Expr, ast.FunctionDef, ast.ClassDef,
    ast.ImportFrom)


def sources():
    return {path: path.read_text(encoding="utf-8") for path in sorted(PACKAGE.rglob("*.py"))}


def trees():
    return {path.name: ast.parse(source) for path, source in sources().items()}


def all_nodes():
    return [(name, node) for name, tree in trees().items() for node in ast.walk(tree)]


def bound_names(node):
    """The names that a node gives to something."""
    if isinstance(node, (ast.FunctionDef, ast.ClassDef)):
        return [node.name]
    if isinstance(node, ast.arg):
        return [node.arg]
    if isinstance(node, ast.Name) and isinstance(node.ctx, ast.Store):
        return [node.id]
    if isinstance(node, ast.ImportFrom):
        return [own.name for own in node.names]
    return []


class Files(unittest.TestCase):
    def test_the_folder_holds_python_files_alone(self):
        for path in PACKAGE.rglob("*"):
            if "__pycache__" not in path.parts:
                self.assertTrue(path.is_dir() or re.fullmatch("[a-z][a-z0-9_]*[.]py|__init__[.]py", path.name), path)

    def test_characters_and_sizes(self):
        for path, source in sources().items():
            lines = source.split("\n")
            self.assertLessEqual(len(lines), 400, path)
            for line in lines:
                self.assertLessEqual(len(line), 120, path)
                self.assertTrue(all(" " <= own <= "~" for own in line), (path, line))

    def test_functions_are_small(self):
        for name, node in all_nodes():
            if isinstance(node, ast.FunctionDef):
                self.assertLessEqual(node.end_lineno - node.lineno + 1, 40, (name, node.name))

    def test_python_warns_of_nothing(self):
        with warnings.catch_warnings():
            warnings.simplefilter("error")
            for path, source in sources().items():
                compile(source, str(path), "exec")

    def test_no_two_files_import_from_each_other(self):
        leads = {name: {node.module.split(".")[1] + ".py" for node in ast.walk(tree)
                        if isinstance(node, ast.ImportFrom) and node.module.startswith("nextsuch.")}
                 for name, tree in trees().items()}
        for name in leads:
            reached, left = set(), list(leads[name])
            while left:
                own = left.pop()
                if own not in reached:
                    reached.add(own)
                    left.extend(leads[own])
            self.assertNotIn(name, reached)


class Language(unittest.TestCase):
    def test_imports(self):
        for name, node in all_nodes():
            self.assertNotIsInstance(node, ast.Import, name)
            if isinstance(node, ast.ImportFrom):
                self.assertEqual(node.level, 0)
                names = {own.name for own in node.names}
                self.assertNotIn("*", names)
                self.assertTrue(node.module.startswith("nextsuch.") or names <= LIBRARY[node.module], (name, names))

    def test_names_are_imported_from_the_file_that_defines_them(self):
        defined = {name: {own.name for own in tree.body if isinstance(own, (ast.FunctionDef, ast.ClassDef))} | {
            target.id for own in tree.body if isinstance(own, ast.Assign) for target in own.targets}
            for name, tree in trees().items()}
        for name, node in all_nodes():
            if isinstance(node, ast.ImportFrom) and node.module.startswith("nextsuch."):
                for own in node.names:
                    self.assertIn(own.name, defined[node.module.split(".")[1] + ".py"], name)

    def test_no_import_and_no_class_has_another_meaning(self):
        for name, tree in trees().items():
            outer = {own for node in tree.body if isinstance(node, (ast.ImportFrom, ast.ClassDef))
                     for own in bound_names(node)}
            inner = [own for node in ast.walk(tree) if not isinstance(node, (ast.ImportFrom, ast.ClassDef))
                     for own in bound_names(node)]
            self.assertEqual(outer & {*inner}, set(), name)

    def test_each_import_is_used(self):
        for name, tree in trees().items():
            used = {node.id for node in ast.walk(tree) if isinstance(node, ast.Name)}
            for node in tree.body:
                if isinstance(node, ast.ImportFrom):
                    self.assertEqual({*bound_names(node)} - used, set(), name)

    def test_statements(self):
        for name, node in all_nodes():
            if isinstance(node, ast.stmt):
                self.assertIsInstance(node, STATEMENTS, (name, node.lineno))
            if isinstance(node, ast.Expr):
                self.assertIsInstance(node.value, (ast.Call, ast.Constant, ast.Yield, ast.YieldFrom), (name, node.lineno))

    def test_module_level(self):
        for name, tree in trees().items():
            for node in tree.body:
                self.assertIsInstance(node, (ast.ImportFrom, ast.FunctionDef, ast.ClassDef, ast.Assign, ast.Expr))
                if isinstance(node, ast.Expr):
                    self.assertIsInstance(node.value, ast.Constant, name)

    def test_no_decorators_and_no_annotations(self):
        for name, node in all_nodes():
            if isinstance(node, (ast.FunctionDef, ast.ClassDef)):
                self.assertEqual(node.decorator_list, [], name)
            if isinstance(node, ast.FunctionDef):
                self.assertIsNone(node.returns)
            if isinstance(node, ast.arg):
                self.assertIsNone(node.annotation)

    def test_values_and_signs(self):
        for name, node in all_nodes():
            if isinstance(node, ast.Constant):
                self.assertIsInstance(node.value, (int, str, type(None)), name)
                self.assertNotIn("%", str(node.value), (name, node.lineno))
            self.assertNotIsInstance(node, (ast.Div, ast.MatMult, ast.Await), name)
            if isinstance(node, ast.Compare):
                for sign, side in zip(node.ops, node.comparators):
                    if isinstance(sign, (ast.Is, ast.IsNot)):
                        self.assertIn(ast.unparse(side), ("None", "True", "False"), (name, node.lineno))

    def test_names(self):
        for name, node in all_nodes():
            for own in bound_names(node):
                self.assertTrue(re.fullmatch("_?[A-Za-z][A-Za-z0-9_]*|_|__init__", own), (name, own))
                if own != "__init__":
                    self.assertFalse(hasattr(builtins, own), (name, own))
                self.assertNotIn(own, BARRED, name)

    def test_builtins(self):
        bound = {own for _, node in all_nodes() for own in bound_names(node)}
        for name, node in all_nodes():
            if isinstance(node, ast.Name) and node.id not in bound:
                self.assertIn(node.id, BUILTINS, (name, node.lineno))

    def test_methods_of_values_and_own_ones(self):
        own_methods = {inner.name for _, node in all_nodes() if isinstance(node, ast.ClassDef)
                       for inner in node.body if isinstance(inner, ast.FunctionDef)}
        attributes = {node.attr for _, node in all_nodes()
                      if isinstance(node, ast.Attribute) and isinstance(node.ctx, ast.Store)}
        self.assertEqual(own_methods & attributes, set())
        for name, node in all_nodes():
            if isinstance(node, ast.Call) and isinstance(node.func, ast.Attribute):
                self.assertIn(node.func.attr, METHODS | own_methods, (name, node.lineno))

    def test_sets_are_sorted_counted_or_asked(self):
        for name, tree in trees().items():
            for node in ast.walk(tree):
                inner = list(ast.iter_child_nodes(node))
                is_set = [isinstance(own, (ast.SetComp, ast.Set)) or (
                    isinstance(own, ast.Call) and ast.unparse(own.func) == "set") for own in inner]
                if any(is_set) and not isinstance(node, (ast.Assign, ast.Compare)):
                    self.assertIsInstance(node, ast.Call, (name, node.lineno))
                    self.assertIn(ast.unparse(node.func), ("sorted", "len"), (name, node.lineno))

    def test_errors_are_made_on_the_spot(self):
        for name, node in all_nodes():
            if isinstance(node, ast.Raise) and node.exc is not None:
                self.assertIsInstance(node.exc, ast.Call, (name, node.lineno))
            if isinstance(node, ast.ExceptHandler):
                self.assertIsNotNone(node.type, (name, node.lineno))

    def test_functions_tell_what_they_do(self):
        for name, tree in trees().items():
            self.assertIsNotNone(ast.get_docstring(tree), name)
            for node in tree.body:
                if isinstance(node, (ast.FunctionDef, ast.ClassDef)):
                    self.assertIsNotNone(ast.get_docstring(node), (name, node.name))


if __name__ == "__main__":
    unittest.main()
