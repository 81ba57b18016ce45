"""Tests of the rules of the language that a short look at the syntax can tell."""

import ast
import builtins
import unittest
import warnings
from pathlib import Path

PACKAGE = Path(__file__).resolve().parent.parent / "chambercuts"
BUILTINS = set(
    "len range enumerate zip min max sum abs sorted reversed int str bool bytes list tuple dict set frozenset"
    " isinstance ord repr any all divmod pow getattr hasattr setattr iter next map super property staticmethod"
    " classmethod type Exception ValueError TypeError KeyError IndexError LookupError ZeroDivisionError"
    " ArithmeticError OverflowError RuntimeError NotImplementedError AttributeError StopIteration"
    " NotImplemented".split()
)
LIBRARY = {
    "heapq": {"heappush", "heappop", "heapify", "heapreplace", "heappushpop"},
    "math": {"gcd", "lcm", "isqrt", "comb", "perm", "factorial"},
    "itertools": {
        "product", "combinations", "permutations", "chain", "accumulate", "pairwise", "islice", "zip_longest",
    },
    "collections": {"defaultdict", "deque"},
}
BARRED = (
    ast.AsyncFunctionDef, ast.AsyncFor, ast.AsyncWith, ast.Await, ast.Import, ast.Div, ast.GeneratorExp, ast.Lambda,
    ast.Global, ast.Nonlocal, ast.AnnAssign,
)


def files():
    return [path for path in sorted(PACKAGE.rglob("*")) if "__pycache__" not in path.parts and path.is_file()]


def trees():
    return [(path, ast.parse(path.read_text(encoding="utf-8"))) for path in files()]


def nodes(kind):
    return [(path, node) for path, tree in trees() for node in ast.walk(tree) if isinstance(node, kind)]


class TheLanguage(unittest.TestCase):

    def test_the_package_holds_python_files_only(self):
        self.assertIn(PACKAGE / "__init__.py", files())
        for path in files():
            self.assertEqual(path.suffix, ".py")
            self.assertEqual(path.parent, PACKAGE)
            self.assertEqual(path.name, path.name.lower())

    def test_sizes_and_signs(self):
        for path in files():
            text = path.read_text(encoding="ascii")
            self.assertLessEqual(text.count("\n"), 399, path)
            self.assertLessEqual(max(len(line) for line in text.split("\n")), 120, path)
            self.assertTrue(all(sign == "\n" or " " <= sign <= "~" for sign in text), path)
        for path, node in nodes(ast.FunctionDef):
            self.assertLessEqual(node.end_lineno - node.lineno + 1, 40, (path, node.name))

    def test_imports(self):
        modules = {"chambercuts." + path.stem: path for path in files()}
        for path, node in nodes(ast.ImportFrom):
            self.assertEqual(node.level, 0)
            for alias in node.names:
                self.assertIsNone(alias.asname)
                if node.module in LIBRARY:
                    self.assertIn(alias.name, LIBRARY[node.module])
                else:
                    defined = ast.parse(modules[node.module].read_text(encoding="utf-8")).body
                    names = [name.id for row in defined if isinstance(row, ast.Assign) for name in row.targets]
                    names += [row.name for row in defined if isinstance(row, (ast.FunctionDef, ast.ClassDef))]
                    self.assertIn(alias.name, names, (path, node.module))

    def test_what_is_not_used(self):
        self.assertEqual([(path.name, type(node).__name__) for path, node in nodes(BARRED)], [])
        for path, tree in trees():
            for node in tree.body:
                if isinstance(node, (ast.FunctionDef, ast.ClassDef)):
                    self.assertEqual(node.decorator_list, [], (path, node.name))
        for path, node in nodes(ast.Constant):
            self.assertNotIsInstance(node.value, (float, complex), path)

    def test_names_that_are_imported(self):
        for path, tree in trees():
            parts = list(ast.walk(tree))
            names = {alias.name for node in parts if isinstance(node, ast.ImportFrom) for alias in node.names}
            read = {node.id for node in parts if isinstance(node, ast.Name) and isinstance(node.ctx, ast.Load)}
            self.assertLessEqual(names, read, path)
            names |= {node.name for node in parts if isinstance(node, ast.ClassDef)}
            given = {node.id for node in parts if isinstance(node, ast.Name) and isinstance(node.ctx, ast.Store)}
            given |= {node.arg for node in parts if isinstance(node, ast.arg)}
            self.assertEqual(names & given, set(), path)

    def test_no_two_files_import_from_each_other(self):
        needs = {"chambercuts." + path.stem: set() for path in files()}
        for path, node in nodes(ast.ImportFrom):
            needs["chambercuts." + path.stem].add(node.module)
        while needs:
            free = [name for name, others in needs.items() if not others & set(needs)]
            self.assertNotEqual(free, [], needs)
            needs = {name: others for name, others in needs.items() if name not in free}

    def test_words_that_stand_nowhere(self):
        for path in files():
            self.assertNotRegex(path.read_text(encoding="ascii"), r"\b_[wW]all", path)

    def test_builtins(self):
        every = set(dir(builtins))
        for path, node in nodes(ast.Name):
            if node.id in every:
                self.assertIn(node.id, BUILTINS, path)
                self.assertIsInstance(node.ctx, ast.Load, (path, node.id))

    def test_no_file_has_a_line_that_python_warns_of(self):
        for path in files():
            with warnings.catch_warnings():
                warnings.simplefilter("error")
                compile(path.read_text(encoding="utf-8"), str(path), "exec")


if __name__ == "__main__":
    unittest.main()
