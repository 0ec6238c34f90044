"""Tests of the form of the package: the rules of ../shared/LANGUAGE.md that are easily checked."""

import ast
import builtins
import pathlib
import re
import unittest

TOP = pathlib.Path(__file__).resolve().parent.parent / "setchooser"
FILES = sorted(path for path in TOP.rglob("*") if path.is_file() and "__pycache__" not in path.parts)
BUILTINS = set(
    "len range enumerate zip min max sum abs sorted reversed int str bool bytes list tuple dict set frozenset "
    "isinstance ord repr any all divmod iter Exception ValueError TypeError KeyError IndexError LookupError "
    "ZeroDivisionError ArithmeticError OverflowError RuntimeError NotImplementedError AttributeError super".split())
METHODS = set(
    "append clear copy count endswith extend find get index insert isalnum isalpha isdigit islower isspace isupper "
    "items join keys ljust lower lstrip partition pop remove replace reverse rfind rjust rpartition rsplit rstrip "
    "setdefault split splitlines startswith strip update upper values zfill bit_length".split())
TAKE_LISTS = ("any", "all", "min", "max", "sum", "sorted")
BARRED = re.compile(r"\b(type|typing|enum|Enum|Flag|Generic|Protocol|ABC|namedtuple|NamedTuple|TypedDict)\b")


def tree_of(path):
    return ast.parse(path.read_text("ascii"))


def parents_of(tree):
    return {child: parent for parent in ast.walk(tree) for child in ast.iter_child_nodes(parent)}


def own_methods():
    return {item.name for path in FILES for node in ast.walk(tree_of(path)) if isinstance(node, ast.ClassDef)
            for item in node.body if isinstance(item, ast.FunctionDef)}


def docstrings(tree):
    return {node.body[0].value for node in ast.walk(tree)
            if isinstance(node, (ast.Module, ast.ClassDef, ast.FunctionDef)) and node.body
            and isinstance(node.body[0], ast.Expr) and isinstance(node.body[0].value, ast.Constant)}


class Files(unittest.TestCase):
    def test_names_lines_and_characters(self):
        self.assertLessEqual(len(FILES), 100)
        for path in FILES:
            self.assertRegex(path.name, r"^[a-z_][a-z0-9_]*\.py$")
            text = path.read_text("ascii")
            self.assertNotIn("\t", text, path)
            self.assertTrue(text.endswith("\n"), path)
            self.assertLessEqual(len(text.splitlines()), 399, path)
            for number, line in enumerate(text.splitlines(), 1):
                self.assertLessEqual(len(line), 120, (path, number))
        for folder in {path.parent for path in FILES}:
            self.assertTrue((folder / "__init__.py").is_file(), folder)
            self.assertFalse(folder.with_suffix(".py").is_file(), folder)

    def test_functions_are_short(self):
        for path in FILES:
            for node in ast.walk(tree_of(path)):
                if isinstance(node, ast.FunctionDef):
                    self.assertLessEqual(node.end_lineno - node.lineno + 1, 40, (path, node.name))

    def test_imports_are_of_the_files_that_define_the_names(self):
        for path in FILES:
            tree = tree_of(path)
            for node in ast.walk(tree):
                self.assertNotIsInstance(node, ast.Import, path)
                if isinstance(node, ast.ImportFrom):
                    self.assertIn(node, tree.body)
                    self.assertEqual((node.level, node.module.split(".")[0]), (0, "setchooser"))
                    source = tree_of(TOP.parent / (node.module.replace(".", "/") + ".py"))
                    defined = {item.name for item in source.body if isinstance(item, (ast.FunctionDef, ast.ClassDef))}
                    defined |= {item.targets[0].id for item in source.body if isinstance(item, ast.Assign)}
                    for name in node.names:
                        self.assertIn(name.name, defined, (path, node.module))


class Code(unittest.TestCase):
    def test_only_plain_statements_and_expressions(self):
        for path in FILES:
            for node in ast.walk(tree_of(path)):
                where = (path, getattr(node, "lineno", 0))
                self.assertNotIsInstance(node, (ast.Global, ast.AsyncFunctionDef, ast.Await, ast.GeneratorExp), where)
                self.assertFalse(isinstance(node, ast.Constant) and isinstance(node.value, (float, complex)), where)
                self.assertFalse(isinstance(node, ast.BinOp) and isinstance(node.op, ast.Div), where)
                if isinstance(node, ast.BinOp) and isinstance(node.op, ast.Pow):
                    self.assertIsInstance(node.right, ast.Constant, where)
                if isinstance(node, (ast.FunctionDef, ast.ClassDef)):
                    for decorator in node.decorator_list:
                        self.assertEqual(getattr(decorator, "id", None), "property", where)

    def test_only_these_builtins_and_methods(self):
        methods = own_methods() | METHODS
        for path in FILES:
            for node in ast.walk(tree_of(path)):
                where = (path, getattr(node, "lineno", 0))
                if isinstance(node, ast.Name) and hasattr(builtins, node.id):
                    self.assertIn(node.id, BUILTINS | {"property"}, where)
                if isinstance(node, ast.Call) and isinstance(node.func, ast.Attribute):
                    self.assertIn(node.func.attr, methods, where)

    def test_names_that_are_given_mean_one_thing(self):
        for path in FILES:
            tree = tree_of(path)
            taken = {name.name for node in tree.body if isinstance(node, ast.ImportFrom) for name in node.names}
            taken |= {node.name for node in tree.body if isinstance(node, ast.ClassDef)}
            for node in ast.walk(tree):
                name = node.arg if isinstance(node, ast.arg) else None
                if isinstance(node, ast.Name) and isinstance(node.ctx, ast.Store):
                    name = node.id
                if name is not None:
                    where = (path, node.lineno, name)
                    self.assertNotIn(name, taken, where)
                    self.assertFalse(hasattr(builtins, name), where)

    def test_properties_have_names_of_their_own(self):
        properties, others = [], []
        for path in FILES:
            for node in ast.walk(tree_of(path)):
                if isinstance(node, ast.ClassDef):
                    for item in node.body:
                        if isinstance(item, ast.FunctionDef):
                            (properties if item.decorator_list else others).append(item.name)
        self.assertEqual(set(properties) & (set(others) | METHODS), set())
        self.assertIn("held", properties)

    def test_sets_are_sorted_counted_or_compared_at_once(self):
        for path in FILES:
            tree = tree_of(path)
            parents = parents_of(tree)
            for node in ast.walk(tree):
                made = isinstance(node, ast.Call) and isinstance(node.func, ast.Name) and node.func.id == "set"
                if made or isinstance(node, (ast.Set, ast.SetComp)):
                    parent = parents[node]
                    called = isinstance(parent, ast.Call) and getattr(parent.func, "id", "") in ("sorted", "len")
                    self.assertTrue(called or isinstance(parent, ast.Compare), (path, node.lineno))

    def test_strings(self):
        for path in FILES:
            tree = tree_of(path)
            told = docstrings(tree)
            for node in ast.walk(tree):
                if isinstance(node, ast.Constant) and isinstance(node.value, str):
                    self.assertNotIn("%", node.value, (path, node.lineno))
                    self.assertFalse(re.fullmatch(r"__.*__", node.value), (path, node.lineno))
                    if node not in told:
                        self.assertIsNone(BARRED.search(node.value), (path, node.lineno))


if __name__ == "__main__":
    unittest.main()
