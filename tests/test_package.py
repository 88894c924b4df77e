"""The package as a whole: no clock, no random numbers, no files, and the plain rules of its language."""

import ast
import builtins
import pathlib
import re
import unittest

FOLDER = pathlib.Path(__file__).resolve().parent.parent / "provenames"
LIBRARY = {
    "heapq": {"heappush", "heappop", "heapify", "heapreplace", "heappushpop"},
    "math": {"gcd", "lcm", "isqrt", "comb", "perm", "factorial"},
    "itertools": {
        "product", "combinations", "permutations", "chain", "accumulate", "pairwise", "islice",
        "zip_longest",
    },
    "collections": {"defaultdict"},
}
BUILTINS = set("""
    len range enumerate zip min max sum abs sorted reversed int str bool bytes list tuple dict set
    frozenset isinstance ord repr any all divmod pow getattr hasattr setattr iter next map
    Exception ValueError TypeError KeyError IndexError LookupError ZeroDivisionError ArithmeticError
    OverflowError RuntimeError NotImplementedError AttributeError StopIteration NotImplemented
    property staticmethod classmethod super object float
""".split())


class PackageTest(unittest.TestCase):
    def setUp(self):
        self.files = sorted(FOLDER.rglob("*.py"))
        self.trees = {path: ast.parse(path.read_text(encoding="utf-8")) for path in self.files}

    def nodes(self, kind):
        for path, tree in self.trees.items():
            for node in ast.walk(tree):
                if isinstance(node, kind):
                    yield path, node

    def test_the_folder_contains_only_its_files(self):
        self.assertIn(FOLDER / "__init__.py", self.files)
        for path in FOLDER.rglob("*"):
            if "__pycache__" not in path.parts:
                with self.subTest(path=path):
                    self.assertRegex(path.name, r"\A[a-z0-9_]+\.py\Z")

    def test_characters_and_sizes(self):
        for path in self.files:
            with self.subTest(path=path):
                text = path.read_text(encoding="utf-8")
                self.assertIsNone(re.search(r"[^ -~\n]", text))
                lines = text.splitlines()
                self.assertLessEqual(len(lines), 399)
                self.assertLessEqual(max([len(line) for line in lines], default=0), 120)
        for path, node in self.nodes(ast.FunctionDef):
            with self.subTest(path=path, function=node.name):
                self.assertLessEqual(node.end_lineno - node.lineno + 1, 40)

    def test_imports(self):
        for path, node in self.nodes((ast.Import, ast.ImportFrom)):
            with self.subTest(path=path, line=node.lineno):
                self.assertIsInstance(node, ast.ImportFrom)
                self.assertEqual(node.level, 0)
                for alias in node.names:
                    if node.module in LIBRARY:
                        self.assertIn(alias.name, LIBRARY[node.module])
                    else:
                        self.assertIn(alias.name, self.defined_in(node.module))

    def defined_in(self, module):
        package, _, name = module.partition(".")
        self.assertEqual(package, "provenames")
        names = set()
        for node in self.trees[FOLDER / f"{name}.py"].body:
            if isinstance(node, (ast.FunctionDef, ast.ClassDef)):
                names.add(node.name)
            elif isinstance(node, ast.Assign):
                names.update(target.id for target in node.targets)
        return names

    def test_builtins(self):
        barred = set(dir(builtins)) - BUILTINS
        for path, node in self.nodes(ast.Name):
            with self.subTest(path=path, line=node.lineno):
                self.assertNotIn(node.id, barred)

    def test_names_that_have_one_meaning(self):
        for path, tree in self.trees.items():
            taken = set(dir(builtins)) | {"register", "elements", "law", "id", "input", "open"}
            for node in tree.body:
                if isinstance(node, ast.ImportFrom):
                    taken.update(alias.name for alias in node.names)
                elif isinstance(node, ast.ClassDef):
                    taken.add(node.name)
            for node in ast.walk(tree):
                if isinstance(node, ast.arg):
                    bound = node.arg
                elif isinstance(node, ast.Name) and isinstance(node.ctx, ast.Store):
                    bound = node.id
                else:
                    continue
                with self.subTest(path=path, line=node.lineno):
                    self.assertNotIn(bound, taken)

    def test_words_that_are_not_used(self):
        barred = re.compile(r"\b(type|typing|enum|Enum|Flag|Generic|Protocol|ABC|namedtuple|NamedTuple)\b")
        for path, node in self.nodes((ast.Name, ast.Attribute, ast.arg)):
            with self.subTest(path=path, line=node.lineno):
                name = getattr(node, "id", None) or getattr(node, "attr", None) or getattr(node, "arg", "")
                self.assertIsNone(barred.search(name))

    def test_files_do_not_import_in_a_circle(self):
        imports = {path.stem: set() for path in self.files}
        for path, node in self.nodes(ast.ImportFrom):
            if node.module not in LIBRARY:
                imports[path.stem].add(node.module.partition(".")[2])
        while imports:
            free = [name for name, wanted in imports.items() if not wanted & set(imports)]
            self.assertNotEqual(free, [], imports)
            for name in free:
                del imports[name]

    def test_no_percent_sign_in_strings(self):
        for path, node in self.nodes(ast.Constant):
            if isinstance(node.value, str):
                with self.subTest(path=path, line=node.lineno):
                    self.assertNotIn("%", node.value)


if __name__ == "__main__":
    unittest.main()
