"""The rules of the form that the package keeps to, as far as they can be seen row by row."""

import ast
import builtins
import pathlib
import re
import unittest

PACKAGE = pathlib.Path(__file__).resolve().parent.parent / "trusthouse"
FILES = sorted(PACKAGE.glob("*.py"))
OWN_NAMES = set("""len range enumerate zip min max sum abs sorted reversed int str bool list tuple dict set frozenset
isinstance ord repr any all divmod Exception ValueError TypeError KeyError IndexError LookupError ZeroDivisionError
ArithmeticError OverflowError RuntimeError NotImplementedError AttributeError StopIteration""".split())
METHODS = set("""append clear copy count endswith extend find get index insert isalnum isalpha isdigit islower isspace
isupper items join keys ljust lower lstrip partition pop remove replace reverse rfind rjust rpartition rsplit rstrip
setdefault split splitlines startswith strip update upper values zfill bit_length""".split())
LEFT_OUT = (ast.With, ast.Match, ast.Delete, ast.Global, ast.Nonlocal, ast.Assert, ast.Yield, ast.YieldFrom,
            ast.AsyncFunctionDef, ast.Import, ast.SetComp, ast.DictComp, ast.GeneratorExp, ast.NamedExpr, ast.Starred,
            ast.Div, ast.Await, ast.JoinedStr)


def trees():
    return [(path.name, ast.parse(path.read_text(encoding="utf-8"))) for path in FILES]


def walked(kind):
    return [(name, node) for name, tree in trees() for node in ast.walk(tree) if isinstance(node, kind)]


class Form(unittest.TestCase):
    def test_nothing_else_lies_in_the_package(self):
        others = [path.name for path in PACKAGE.iterdir() if path not in FILES and path.name != "__pycache__"]
        self.assertEqual(others, [])
        for path in FILES:
            self.assertRegex(path.name, r"\A(__init__|[a-z][a-z0-9_]*)\.py\Z")

    def test_sizes_and_signs(self):
        for path in FILES:
            text = path.read_text(encoding="utf-8")
            self.assertTrue(re.fullmatch(r"[ -~\n]*", text), path.name)
            self.assertLessEqual(len(text.splitlines()), 399, path.name)
            self.assertLessEqual(max(len(line) for line in text.splitlines()), 120, path.name)
        for name, node in walked(ast.FunctionDef):
            self.assertLessEqual(node.end_lineno - node.lineno + 1, 40, (name, node.name))

    def test_what_is_left_out(self):
        self.assertEqual([(name, type(node).__name__, node.lineno) for name, node in walked(LEFT_OUT)], [])
        for name, node in walked(ast.Constant):
            self.assertIn(type(node.value), (int, str, bool, type(None)), (name, node.lineno))
        for name, node in walked((ast.For, ast.While)):
            self.assertEqual(node.orelse, [], (name, node.lineno))
        for name, node in walked((ast.FunctionDef, ast.ClassDef)):
            self.assertEqual(node.decorator_list, [], (name, node.lineno))
        for name, node in walked(ast.Assign):
            self.assertEqual(len(node.targets), 1, (name, node.lineno))

    def test_imports_are_the_packages_own_and_go_one_way(self):
        drawn = {path.stem: [] for path in FILES}
        for name, node in walked(ast.ImportFrom):
            self.assertRegex(node.module, r"\Atrusthouse\.[a-z]+\Z")
            self.assertTrue(all(alias.asname is None and alias.name != "*" for alias in node.names), name)
            drawn[name[:-3]].append(node.module.partition(".")[2])
        while drawn:
            free = [stem for stem, others in drawn.items() if not any(other in drawn for other in others)]
            self.assertNotEqual(free, [], "files draw from one another")
            drawn = {stem: others for stem, others in drawn.items() if stem not in free}

    def test_pythons_own_names_and_methods(self):
        for path_name, tree in trees():
            bound = {node.name for node in ast.walk(tree) if isinstance(node, (ast.FunctionDef, ast.ClassDef))}
            bound |= {alias.name for node in ast.walk(tree) if isinstance(node, ast.ImportFrom) for alias in node.names}
            bound |= {node.arg for node in ast.walk(tree) if isinstance(node, ast.arg)}
            bound |= {node.id for node in ast.walk(tree)
                      if isinstance(node, ast.Name) and isinstance(node.ctx, ast.Store)}
            used = {node.id for node in ast.walk(tree) if isinstance(node, ast.Name)}
            self.assertEqual(used - bound - OWN_NAMES, set(), path_name)
            self.assertEqual([name for name in bound if name in dir(builtins)], [], path_name)

    def test_methods_and_values_of_objects(self):
        methods = {node.name for name, tree in walked(ast.ClassDef) for node in tree.body
                   if isinstance(node, ast.FunctionDef)}
        values = {node.attr for name, node in walked(ast.Attribute) if isinstance(node.ctx, ast.Store)}
        read = {node.attr for name, node in walked(ast.Attribute)}
        self.assertEqual(methods & values, set())
        self.assertEqual(read - methods - values - METHODS, set())


if __name__ == "__main__":
    unittest.main()
