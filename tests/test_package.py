"""What holds of the package as a whole: where its names stand, and what it never uses."""

import ast
import unittest
from pathlib import Path

FOLDER = Path(__file__).resolve().parent.parent / "tiecount"

INTERFACE = {
    "errors.py": ["TieError", "BadCounts", "BadMany", "BadWeb", "BadExchange", "Unlike", "NoWeb"],
    "counts.py": ["need_counts", "wanted"],
    "webs.py": ["need_web", "counts_of", "pieces"],
}

# No clock, chance, files or network can be reached without one of these or an import.
BARRED = ["open", "input", "print", "eval", "exec", "compile", "__import__", "globals", "hash", "id"]


def files():
    return sorted(path for path in FOLDER.iterdir() if path.name != "__pycache__")


def tree_of(path):
    return ast.parse(path.read_text(encoding="ascii"))


class Package(unittest.TestCase):
    def test_the_folder_holds_only_python_files(self):
        self.assertIn("__init__.py", [path.name for path in files()])
        for path in files():
            self.assertTrue(path.is_file() and path.suffix == ".py", path.name)

    def test_each_name_is_defined_in_its_file(self):
        for name, expected in INTERFACE.items():
            nodes = tree_of(FOLDER / name).body
            defined = [node.name for node in nodes if isinstance(node, (ast.FunctionDef, ast.ClassDef))]
            for word in expected:
                self.assertIn(word, defined, name)

    def test_imports_are_from_the_package_only(self):
        for path in files():
            for node in ast.walk(tree_of(path)):
                self.assertNotIsInstance(node, ast.Import, path.name)
                if isinstance(node, ast.ImportFrom):
                    self.assertEqual(node.module.split(".")[0], "tiecount", path.name)

    def test_no_clock_chance_or_files(self):
        for path in files():
            for node in ast.walk(tree_of(path)):
                if isinstance(node, ast.Name):
                    self.assertNotIn(node.id, BARRED, path.name)

    def test_sizes(self):
        for path in files():
            lines = path.read_text(encoding="ascii").splitlines()
            self.assertLessEqual(len(lines), 399, path.name)
            self.assertLessEqual(max(map(len, lines), default=0), 120, path.name)
            for node in ast.walk(tree_of(path)):
                if isinstance(node, ast.FunctionDef):
                    self.assertLessEqual(node.end_lineno - node.lineno + 1, 40, node.name)


if __name__ == "__main__":
    unittest.main()
