"""A few rules of form for the files of the package: sizes, signs, imports, names, statements."""

import ast
import builtins
import unittest
from pathlib import Path

FOLDER = Path(__file__).resolve().parent.parent / "stretchtold"
LIBRARY = {"heapq", "math", "itertools", "collections"}
BARRED = (ast.Global, ast.AsyncFunctionDef, ast.Await, ast.Div, ast.Import)


def files():
    return [path for path in sorted(FOLDER.rglob("*")) if "__pycache__" not in path.parts]


def bound_names(node):
    if isinstance(node, ast.Name) and isinstance(node.ctx, ast.Store):
        return [node.id]
    if isinstance(node, ast.arg):
        return [node.arg]
    if isinstance(node, (ast.FunctionDef, ast.ClassDef)):
        return [node.name]
    return []


class FormTest(unittest.TestCase):
    def test_only_python_files(self):
        self.assertTrue(files())
        self.assertEqual([path.name for path in files() if path.is_file() and path.suffix != ".py"], [])

    def test_sizes_and_signs(self):
        for path in files():
            lines = path.read_text(encoding="ascii").split("\n")
            self.assertLessEqual(len(lines), 400, path)
            self.assertLessEqual(max(map(len, lines)), 120, path)
            self.assertEqual([line for line in lines if not (line + " ").isprintable()], [], path)

    def test_statements_and_names(self):
        for path in files():
            for node in ast.walk(ast.parse(path.read_text())):
                self.assertNotIsInstance(node, BARRED, path)
                if isinstance(node, ast.ImportFrom):
                    self.assertTrue(node.module.startswith("stretchtold.") or node.module in LIBRARY, path)
                if isinstance(node, ast.FunctionDef):
                    self.assertLessEqual(node.end_lineno - node.lineno + 1, 40, f"{path} {node.name}")
                if isinstance(node, ast.Constant):
                    self.assertNotIsInstance(node.value, (float, complex), path)
                for name in bound_names(node):
                    self.assertNotIn(name, vars(builtins), path)


if __name__ == "__main__":
    unittest.main()
