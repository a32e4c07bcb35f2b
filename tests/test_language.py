"""Some of the rules of the language that the package is written in, as far as they are easily counted."""

import ast
import pathlib
import unittest

PACKAGE = pathlib.Path(__file__).resolve().parent.parent / "treetellers"
FILES = sorted(PACKAGE.glob("*.py"))
BARRED = (ast.Global, ast.AsyncFunctionDef, ast.Await, ast.AnnAssign, ast.Div, ast.GeneratorExp, ast.Import)

INTERFACE = {
    "telling": {"told": ["book", "tree"], "all_told": ["book", "tree"]},
    "walks": {"sets_at": ["book", "tree"], "made": ["book"], "walked": ["book", "walk", "tree"]},
    "origins": {"origins": ["book", "tree"], "comes_of": ["book", "tree", "place"]},
    "anew": {"Teller": ["self", "book", "tree"]},
    "keeping": {
        "accepted": ["book", "state"],
        "parted": ["one", "other"],
        "closed": ["one", "other"],
        "shows": ["one", "other", "pairs"],
    },
    "notes": {"written": ["tree"], "read": ["text"], "written_rules": ["book"], "read_rules": ["text"]},
}


class Language(unittest.TestCase):
    def test_the_folder_contains_nothing_else(self):
        others = [path for path in PACKAGE.iterdir() if path.suffix != ".py" and path.name != "__pycache__"]
        self.assertEqual(others, [])
        self.assertIn("__init__.py", [path.name for path in FILES])

    def test_size_and_characters(self):
        for path in FILES:
            rows = path.read_text("utf-8").split("\n")
            self.assertLessEqual(len(rows), 399, path)
            for row in rows:
                self.assertLessEqual(len(row), 120, path)
                self.assertTrue(all(" " <= sign <= "~" for sign in row), (path, row))

    def test_functions_are_small(self):
        for path in FILES:
            for node in ast.walk(ast.parse(path.read_text("utf-8"))):
                if isinstance(node, ast.FunctionDef):
                    self.assertLessEqual(node.end_lineno - node.lineno + 1, 40, (path, node.name))

    def test_barred_kinds_of_code(self):
        for path in FILES:
            for node in ast.walk(ast.parse(path.read_text("utf-8"))):
                self.assertNotIsInstance(node, BARRED, path)
                if isinstance(node, ast.Constant):
                    self.assertNotIsInstance(node.value, (float, complex), path)
                    self.assertNotIn("%", str(node.value), path)

    def test_imports_are_from_the_package(self):
        for path in FILES:
            for node in ast.walk(ast.parse(path.read_text("utf-8"))):
                if isinstance(node, ast.ImportFrom):
                    self.assertEqual(node.module.split(".")[0], "treetellers", path)
                    self.assertEqual(node.level, 0, path)

    def test_each_name_of_the_interface_is_defined_in_its_file(self):
        for name, wanted in INTERFACE.items():
            code = ast.parse((PACKAGE / f"{name}.py").read_text("utf-8"))
            defined = {node.name: node for node in code.body if isinstance(node, (ast.FunctionDef, ast.ClassDef))}
            for one, arguments in wanted.items():
                self.assertEqual([argument.arg for argument in self.function(defined[one]).args.args], arguments)

    def function(self, node):
        return node if isinstance(node, ast.FunctionDef) else self.methods(node)["__init__"]

    def methods(self, node):
        return {method.name: method for method in node.body if isinstance(method, ast.FunctionDef)}

    def test_the_teller_has_its_methods_itself(self):
        code = ast.parse((PACKAGE / "anew.py").read_text("utf-8"))
        teller = [node for node in code.body if isinstance(node, ast.ClassDef)][0]
        methods = self.methods(teller)
        for name, arguments in (("tree_now", []), ("tells", []), ("change", ["place", "new"])):
            self.assertEqual([argument.arg for argument in methods[name].args.args], ["self", *arguments])


if __name__ == "__main__":
    unittest.main()
