"""What holds of the package as a whole: where its names stand, and what it never uses."""

import ast
import unittest
from pathlib import Path

FOLDER = Path(__file__).resolve().parent.parent / "tiecount"

CLASSES = ["TieError", "BadCounts", "BadMany", "BadWeb", "BadExchange", "Unlike", "NoWeb"]

FUNCTIONS = {
    "counts.py": {"need_counts": ["thing"], "wanted": ["counts", "many"]},
    "webs.py": {"need_web": ["size", "ties"], "counts_of": ["size", "ties"], "pieces": ["size", "ties"]},
    "exchanges.py": {
        "may": ["size", "ties", "thing"], "done": ["size", "ties", "exchange"], "exchanges": ["size", "ties"],
    },
    "telling.py": {"told": ["counts"]},
    "ways.py": {"way": ["size", "one", "other"]},
    "hanging.py": {"hung": ["counts"], "joining": ["size", "ties"]},
}

# No clock, chance, files or network can be reached without one of these or an import.
BARRED = ["open", "input", "print", "eval", "exec", "compile", "__import__", "globals", "hash", "id"]


def files():
    return sorted(path for path in FOLDER.iterdir() if path.name != "__pycache__")


def tree_of(path):
    return ast.parse(path.read_text(encoding="ascii"))


class Package(unittest.TestCase):
    def test_the_folder_holds_only_python_files(self):
        self.assertIn("__init__.py", [path.name for path in files()])
        for path in files():
            self.assertTrue(path.is_file() and path.suffix == ".py", path.name)

    def test_each_class_is_defined_in_its_file(self):
        defined = [node.name for node in tree_of(FOLDER / "errors.py").body if isinstance(node, ast.ClassDef)]
        for name in CLASSES:
            self.assertIn(name, defined)

    def test_each_function_is_defined_in_its_file_with_its_arguments(self):
        for file, expected in FUNCTIONS.items():
            defined = {node.name: ast.unparse(node.args) for node in tree_of(FOLDER / file).body
                       if isinstance(node, ast.FunctionDef)}
            for name, arguments in expected.items():
                self.assertEqual(defined.get(name), ", ".join(arguments), (file, name))

    def test_imports_are_from_the_package_only(self):
        for path in files():
            for node in ast.walk(tree_of(path)):
                self.assertNotIsInstance(node, ast.Import, path.name)
                if isinstance(node, ast.ImportFrom):
                    self.assertEqual(node.module.split(".")[0], "tiecount", path.name)

    def test_no_clock_chance_or_files(self):
        for path in files():
            for node in ast.walk(tree_of(path)):
                if isinstance(node, ast.Name):
                    self.assertNotIn(node.id, BARRED, path.name)

    def test_sizes(self):
        for path in files():
            lines = path.read_text(encoding="ascii").splitlines()
            self.assertLessEqual(len(lines), 399, path.name)
            self.assertLessEqual(max(map(len, lines), default=0), 120, path.name)
            for node in ast.walk(tree_of(path)):
                if isinstance(node, ast.FunctionDef):
                    self.assertLessEqual(node.end_lineno - node.lineno + 1, 40, node.name)


if __name__ == "__main__":
    unittest.main()
