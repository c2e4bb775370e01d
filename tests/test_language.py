"""The plainest rules of the language that the package is written in: its files, sizes, signs, imports and words."""

import ast
import builtins
import pathlib
import re
import unittest

PACKAGE = pathlib.Path(__file__).resolve().parent.parent / "fractionparts"
FILES = sorted(PACKAGE.glob("*.py"))
LIBRARY = {"math": {"gcd", "lcm", "isqrt", "comb", "perm", "factorial"}}
BUILTINS = set("""len range enumerate zip min max sum abs sorted reversed int str bool list tuple dict set isinstance
    ord repr abs any all divmod iter next type ValueError TypeError KeyError IndexError LookupError
    ZeroDivisionError""".split())
METHODS = {"append", "clear", "copy", "count", "extend", "get", "index", "insert", "items", "keys", "pop", "remove",
           "reverse", "setdefault", "update", "values", "bit_length"}
BARRED_KINDS = (ast.AsyncFunctionDef, ast.Await, ast.Global, ast.Div, ast.Set, ast.Yield)


def nodes(kind):
    """Each node of a kind, with the file that it stands in."""
    return [(file, node) for file in FILES for node in ast.walk(ast.parse(file.read_text())) if isinstance(node, kind)]


def bound_names(tree):
    """The names that a file's functions give to parameters and variables."""
    stored = [node.id for node in ast.walk(tree) if isinstance(node, ast.Name) and isinstance(node.ctx, ast.Store)]
    return stored + [node.arg for node in ast.walk(tree) if isinstance(node, ast.arg)]


class LanguageTest(unittest.TestCase):
    def test_the_folder_holds_plain_files_alone(self):
        for path in PACKAGE.iterdir():
            if path.name != "__pycache__":
                self.assertRegex(path.name, r"^[a-z0-9_]+\.py$")
        self.assertTrue((PACKAGE / "__init__.py").is_file())

    def test_sizes_and_signs(self):
        for file in FILES:
            lines = file.read_text().splitlines()
            self.assertLessEqual(len(lines), 399, file)
            for line in lines:
                self.assertTrue(re.fullmatch(r"[ -~]{0,120}", line), (file, line))

    def test_functions_are_short(self):
        for file, node in nodes(ast.FunctionDef):
            self.assertLessEqual(node.end_lineno - node.lineno + 1, 40, (file, node.name))
            self.assertEqual(node.decorator_list, [], (file, node.name))

    def test_imports(self):
        for file, node in nodes((ast.Import, ast.ImportFrom)):
            self.assertIsInstance(node, ast.ImportFrom, file)
            names = {alias.name for alias in node.names}
            self.assertTrue(all(alias.asname is None for alias in node.names), file)
            if node.module in LIBRARY:
                self.assertLessEqual(names, LIBRARY[node.module], file)
            else:
                self.assertEqual(node.level, 0, file)
                self.assertRegex(node.module, r"^fractionparts\.[a-z]+$")
                home = ast.parse((PACKAGE / f"{node.module.split('.')[1]}.py").read_text())
                functions = {part.name for part in home.body if isinstance(part, (ast.FunctionDef, ast.ClassDef))}
                values = {target.id for part in home.body if isinstance(part, ast.Assign) for target in part.targets}
                self.assertLessEqual(names, functions | values, file)

    def test_no_barred_statements_or_signs(self):
        self.assertEqual(nodes(BARRED_KINDS), [])
        for file, node in nodes(ast.Constant):
            self.assertNotIsInstance(node.value, (float, complex), (file, node.lineno))

    def test_builtins_and_methods(self):
        for file, node in nodes(ast.Call):
            if isinstance(node.func, ast.Attribute):
                self.assertIn(node.func.attr, METHODS, (file, node.lineno))
        barred = set(dir(builtins)) - BUILTINS
        for file, node in nodes(ast.Name):
            self.assertNotIn(node.id, barred, (file, node.lineno))

    def test_names_are_not_given_twice(self):
        for file in FILES:
            tree = ast.parse(file.read_text())
            imports = [node for node in ast.walk(tree) if isinstance(node, ast.ImportFrom)]
            imported = {alias.name for node in imports for alias in node.names}
            functions = {node.name for node in tree.body if isinstance(node, (ast.FunctionDef, ast.ClassDef))}
            self.assertEqual(imported & functions, set(), file)
            self.assertEqual((imported | BUILTINS) & set(bound_names(tree)), set(), file)


if __name__ == "__main__":
    unittest.main()
