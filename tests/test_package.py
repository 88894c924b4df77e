"""The package as a whole: no clock, no random numbers, no files, and the plain rules of its language."""

import ast
import builtins
import pathlib
import re
import unittest

FOLDER = pathlib.Path(__file__).resolve().parent.parent / "provenames"
LIBRARY = {
    "heapq": {"heappush", "heappop", "heapify", "heapreplace", "heappushpop"},
    "math": {"gcd", "lcm", "isqrt", "comb", "perm", "factorial"},
    "itertools": {
        "product", "combinations", "permutations", "chain", "accumulate", "pairwise", "islice",
        "zip_longest",
    },
    "collections": {"defaultdict"},
}
BUILTINS = set("""
    len range enumerate zip min max sum abs sorted reversed int str bool bytes list tuple dict set
    frozenset isinstance ord repr any all divmod pow getattr hasattr setattr iter next map
    Exception ValueError TypeError KeyError IndexError LookupError ZeroDivisionError ArithmeticError
    OverflowError RuntimeError NotImplementedError AttributeError StopIteration NotImplemented
    property staticmethod classmethod super object float
""".split())


class PackageTest(unittest.TestCase):
    def setUp(self):
        self.files = sorted(FOLDER.rglob("*.py"))
        self.trees = {path: ast.parse(path.read_text(encoding="utf-8")) for path in self.files}

    def nodes(self, kind):
        for path, tree in self.trees.items():
            for node in ast.walk(tree):
                if isinstance(node, kind):
                    yield path, node

    def test_the_folder_contains_only_its_files(self):
        self.assertIn(FOLDER / "__init__.py", self.files)
        for path in FOLDER.rglob("*"):
            if "__pycache__" not in path.parts:
                with self.subTest(path=path):
                    self.assertRegex(path.name, r"\A[a-z0-9_]+\.py\Z")

    def test_characters_and_sizes(self):
        for path in self.files:
            with self.subTest(path=path):
                text = path.read_text(encoding="utf-8")
                self.assertIsNone(re.search(r"[^ -~\n]", text))
                lines = text.splitlines()
                self.assertLessEqual(len(lines), 399)
                self.assertLessEqual(max([len(line) for line in lines], default=0), 120)
        for path, node in self.nodes(ast.FunctionDef):
            with self.subTest(path=path, function=node.name):
                self.assertLessEqual(node.end_lineno - node.lineno + 1, 40)

    def test_imports(self):
        for path, node in self.nodes((ast.Import, ast.ImportFrom)):
            with self.subTest(path=path, line=node.lineno):
                self.assertIsInstance(node, ast.ImportFrom)
                self.assertEqual(node.level, 0)
                for alias in node.names:
                    if node.module in LIBRARY:
                        self.assertIn(alias.name, LIBRARY[node.module])
                    else:
                        self.assertIn(alias.name, self.defined_in(node.module))

    def defined_in(self, module):
        package, _, name = module.partition(".")
        self.assertEqual(package, "provenames")
        names = set()
        for node in self.trees[FOLDER / f"{name}.py"].body:
            if isinstance(node, (ast.FunctionDef, ast.ClassDef)):
                names.add(node.name)
            elif isinstance(node, ast.Assign):
                names.update(target.id for target in node.targets)
        return names

    def test_builtins(self):
        barred = set(dir(builtins)) - BUILTINS
        for path, node in self.nodes(ast.Name):
            with self.subTest(path=path, line=node.lineno):
                self.assertNotIn(node.id, barred)

    def test_no_percent_sign_in_strings(self):
        for path, node in self.nodes(ast.Constant):
            if isinstance(node.value, str):
                with self.subTest(path=path, line=node.lineno):
                    self.assertNotIn("%", node.value)


if __name__ == "__main__":
    unittest.main()
