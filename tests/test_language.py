"""The rules of the language that can be told from the files alone."""

import ast
import builtins
import pathlib
import unittest

PACKAGE = pathlib.Path(__file__).resolve().parent.parent / "fivetrees"
LIBRARY = {
    "heapq": {"heappush", "heappop", "heapify", "heapreplace", "heappushpop"},
    "math": {"gcd", "lcm", "isqrt", "comb", "perm", "factorial"},
    "itertools": {
        "product", "combinations", "permutations", "chain", "accumulate", "pairwise", "islice", "zip_longest",
    },
    "collections": {"defaultdict"},
}
BUILTINS = set(
    "len range enumerate zip min max sum abs sorted reversed int str bool bytes list tuple dict set frozenset"
    " isinstance ord repr any all divmod pow getattr hasattr setattr iter next map super property staticmethod"
    " classmethod Exception ValueError TypeError KeyError IndexError LookupError ZeroDivisionError ArithmeticError"
    " OverflowError RuntimeError NotImplementedError AttributeError StopIteration NotImplemented".split()
)
NEVER = set("register mro elements open input law version_info with_traceback add_note format format_map".split())
OUT = (
    ast.Global, ast.AsyncFunctionDef, ast.AsyncFor, ast.AsyncWith, ast.Await, ast.Import, ast.Div, ast.MatMult,
    ast.MatchMapping, ast.TryStar,
)
DECORATORS = ("property", "staticmethod", "classmethod")


def files():
    return sorted(PACKAGE.rglob("*.py"))


def nodes():
    for path in files():
        for node in ast.walk(ast.parse(path.read_text())):
            yield path.name, node


def bound(node):
    """The names that a node binds or that stand in it as attributes."""
    if isinstance(node, ast.Name):
        return [node.id]
    if isinstance(node, ast.Attribute):
        return [node.attr]
    if isinstance(node, (ast.FunctionDef, ast.ClassDef)):
        return [node.name]
    if isinstance(node, ast.arg):
        return [node.arg]
    return []


class Language(unittest.TestCase):
    def test_files(self):
        for path in PACKAGE.rglob("*"):
            if "__pycache__" not in path.parts:
                self.assertEqual(path.suffix, ".py", path)
        for path in files():
            text = path.read_text(encoding="utf-8")
            lines = text.split("\n")
            self.assertLessEqual(len(lines) - 1, 399, path)
            self.assertLessEqual(max(map(len, lines)), 120, path)
            self.assertEqual(set(text) - set(map(chr, range(32, 127))), {"\n"}, path)

    def test_functions_are_small(self):
        for name, node in nodes():
            if isinstance(node, ast.FunctionDef):
                self.assertLessEqual(node.end_lineno - node.lineno + 1, 40, (name, node.name))

    def test_imports(self):
        for name, node in nodes():
            if isinstance(node, ast.ImportFrom):
                self.assertEqual(node.level, 0, name)
                names = {one.name for one in node.names}
                self.assertEqual([one.asname for one in node.names if one.asname], [], name)
                if node.module in LIBRARY:
                    self.assertLessEqual(names, LIBRARY[node.module], name)
                else:
                    defined = (PACKAGE.parent / (node.module.replace(".", "/") + ".py")).read_text()
                    rows = ast.parse(defined).body
                    there = {row.name for row in rows if isinstance(row, (ast.FunctionDef, ast.ClassDef))}
                    there |= {row.targets[0].id for row in rows if isinstance(row, ast.Assign)}
                    self.assertLessEqual(names, there, name)

    def test_statements_and_values(self):
        for name, node in nodes():
            self.assertNotIsInstance(node, OUT, name)
            if isinstance(node, ast.Constant):
                self.assertNotIsInstance(node.value, (float, complex), name)
                self.assertFalse(isinstance(node.value, str) and chr(37) in node.value, (name, node.value))

    def test_names(self):
        # Doctest leaves the name _ among the builtins, as the interpreter's prompt does.
        known = set(dir(builtins)) - {"_"}
        for name, node in nodes():
            for word in bound(node):
                self.assertNotIn(word, NEVER, name)
            if isinstance(node, ast.Name) and node.id in known:
                self.assertIn(node.id, BUILTINS, name)
                self.assertIsInstance(node.ctx, ast.Load, (name, node.id))
            if isinstance(node, ast.arg):
                self.assertNotIn(node.arg, known, name)

    def test_decorators(self):
        for name, node in nodes():
            if isinstance(node, (ast.FunctionDef, ast.ClassDef)):
                for one in node.decorator_list:
                    setter = isinstance(one, ast.Attribute) and one.attr == "setter"
                    self.assertTrue(setter or one.id in DECORATORS, (name, node.name))


if __name__ == "__main__":
    unittest.main()
