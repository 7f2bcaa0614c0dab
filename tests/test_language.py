"""The package keeps to its part of Python, as far as a walk through its files can see."""

import ast
import builtins
import pathlib
import unittest

PACKAGE = pathlib.Path(__file__).resolve().parent.parent / "cardtable"
NODES = (
    ast.Module, ast.FunctionDef, ast.ClassDef, ast.arguments, ast.arg, ast.ImportFrom, ast.alias, ast.Assign,
    ast.AugAssign, ast.If, ast.While, ast.For, ast.Return, ast.Break, ast.Continue, ast.Pass, ast.Raise, ast.Try,
    ast.ExceptHandler, ast.Expr, ast.Constant, ast.Name, ast.List, ast.Tuple, ast.Dict, ast.Attribute, ast.Subscript,
    ast.Slice, ast.Call, ast.BinOp, ast.UnaryOp, ast.BoolOp, ast.Compare, ast.IfExp, ast.ListComp, ast.comprehension,
    ast.expr_context, ast.operator, ast.unaryop, ast.boolop, ast.cmpop,
)
BUILTINS = set(
    "len range enumerate zip min max sum abs sorted reversed int str bool list tuple dict set frozenset isinstance ord "
    "repr any all divmod Exception ValueError TypeError KeyError IndexError LookupError RuntimeError".split()
)
METHODS = set(
    "append clear copy count endswith extend find get index insert items join keys pop remove reverse setdefault "
    "update values".split()
)


def trees():
    return [(path, ast.parse(path.read_text(encoding="ascii"))) for path in sorted(PACKAGE.glob("*.py"))]


def functions(tree):
    return [node for node in ast.walk(tree) if isinstance(node, ast.FunctionDef)]


def bound_names(tree):
    names = [node.id for node in ast.walk(tree) if isinstance(node, ast.Name) and isinstance(node.ctx, ast.Store)]
    names += [node.name for node in ast.walk(tree) if isinstance(node, (ast.FunctionDef, ast.ClassDef))]
    names += [node.arg for node in ast.walk(tree) if isinstance(node, ast.arg)]
    return names + [part.name for node in ast.walk(tree) if isinstance(node, ast.ImportFrom) for part in node.names]


class Language(unittest.TestCase):
    def test_the_folder_holds_python_files_alone(self):
        found = [path for path in PACKAGE.iterdir() if path.name != "__pycache__"]
        self.assertEqual([path for path in found if path.suffix != ".py" or path.name != path.name.lower()], [])

    def test_sizes_and_signs(self):
        for path, tree in trees():
            rows = path.read_text(encoding="ascii").split("\n")
            self.assertLess(len(rows), 400, path)
            for row in rows:
                self.assertLessEqual(len(row), 120, path)
                self.assertTrue(all(" " <= sign <= "~" for sign in row), (path, row))
            for function in functions(tree):
                self.assertLessEqual(function.end_lineno - function.lineno + 1, 40, function.name)

    def test_statements_and_values(self):
        for path, tree in trees():
            for node in ast.walk(tree):
                self.assertIsInstance(node, NODES, path)
                self.assertNotIsInstance(node, (ast.Div, ast.MatMult), path)
                if isinstance(node, (ast.For, ast.While)):
                    self.assertEqual(node.orelse, [], path)
                if isinstance(node, ast.Assign):
                    self.assertEqual([len(node.targets), isinstance(node.targets[0], ast.Tuple)], [1, False], path)
                if isinstance(node, ast.Constant):
                    self.assertIn(type(node.value), (int, str, bool, type(None)), path)
                if isinstance(node, (ast.FunctionDef, ast.ClassDef)):
                    self.assertEqual(node.decorator_list, [], path)

    def test_imports_are_the_packages_own(self):
        for path, tree in trees():
            for node in ast.walk(tree):
                if isinstance(node, ast.ImportFrom):
                    self.assertTrue(node.level == 0 and node.module.startswith("cardtable."), path)
                    self.assertTrue(all(part.name != "*" and part.asname is None for part in node.names), path)

    def test_names(self):
        for path, tree in trees():
            names = bound_names(tree)
            for name in names:
                self.assertFalse(name.startswith("_") and name != "__init__", (path, name))
                self.assertNotIn(name, dir(builtins), path)
            used = {node.id for node in ast.walk(tree) if isinstance(node, ast.Name)}
            self.assertEqual(used - BUILTINS - set(names) - {"self"}, set(), path)

    def test_no_parameter_or_local_is_called_like_a_class_or_an_import(self):
        for path, tree in trees():
            taken = {part.name for node in ast.walk(tree) if isinstance(node, ast.ImportFrom) for part in node.names}
            taken |= {node.name for node in ast.walk(tree) if isinstance(node, ast.ClassDef)}
            kept = {node.arg for node in ast.walk(tree) if isinstance(node, ast.arg)}
            names = [node for node in ast.walk(tree) if isinstance(node, ast.Name)]
            kept |= {node.id for node in names if isinstance(node.ctx, ast.Store)}
            self.assertEqual(taken & kept, set(), path)

    def test_no_two_files_draw_from_one_another(self):
        drawn = {"cardtable." + path.stem: {node.module for node in ast.walk(tree) if isinstance(node, ast.ImportFrom)}
                 for path, tree in trees()}
        while drawn:
            free = [name for name in drawn if not drawn[name] & set(drawn)]
            self.assertNotEqual(free, [], drawn)
            for name in free:
                del drawn[name]

    def test_no_name_is_a_method_here_and_a_value_there(self):
        methods, stored = set(), set()
        for path, tree in trees():
            for node in ast.walk(tree):
                if isinstance(node, ast.ClassDef):
                    methods |= {part.name for part in node.body if isinstance(part, ast.FunctionDef)}
                if isinstance(node, ast.Attribute) and isinstance(node.ctx, ast.Store):
                    stored.add(node.attr)
        self.assertEqual(methods & stored, set())
        for path, tree in trees():
            used = {node.attr for node in ast.walk(tree) if isinstance(node, ast.Attribute)}
            self.assertEqual(used - methods - stored - METHODS, set(), path)
