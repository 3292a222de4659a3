"""The rules of the language that can be read off the files of the package at once."""

import ast
import builtins
import unittest
from pathlib import Path

PACKAGE = Path(__file__).resolve().parent.parent / "rowcoders"

LIBRARY = {
    "heapq": {"heappush", "heappop", "heapify", "heapreplace", "heappushpop"},
    "math": {"gcd", "lcm", "isqrt", "comb", "perm", "factorial"},
    "itertools": {
        "product", "combinations", "permutations", "chain", "accumulate", "pairwise", "islice", "zip_longest",
    },
    "collections": {"defaultdict", "deque"},
}

BUILTINS = set(
    "len range enumerate zip min max sum abs sorted reversed int str bool list tuple dict set isinstance ord repr"
    " any all divmod map iter next type property staticmethod classmethod super object"
    " Exception ValueError TypeError KeyError IndexError LookupError ZeroDivisionError ArithmeticError OverflowError"
    " RuntimeError NotImplementedError StopIteration NotImplemented True False None".split()
)

METHODS = set(
    "append clear copy count endswith extend find get index insert isalnum isalpha isdigit islower isspace isupper"
    " items join keys ljust lower lstrip partition pop remove replace reverse rfind rjust rpartition rsplit rstrip"
    " setdefault split splitlines startswith strip update upper values zfill bit_length add discard sort"
    " appendleft popleft".split()
)

BARRED = (
    ast.AsyncFunctionDef, ast.AsyncFor, ast.AsyncWith, ast.Await, ast.Global, ast.Div, ast.MatMult,
)


def trees():
    for path in sorted(PACKAGE.rglob("*.py")):
        text = path.read_text(encoding="utf-8")
        yield path, text, ast.parse(text)


def nodes(tree, kinds):
    return [node for node in ast.walk(tree) if isinstance(node, kinds)]


def bound_names(tree):
    for node in ast.walk(tree):
        if isinstance(node, ast.Name) and isinstance(node.ctx, ast.Store):
            yield node.id, node.lineno
        elif isinstance(node, ast.arg):
            yield node.arg, node.lineno
        elif isinstance(node, (ast.FunctionDef, ast.ClassDef)):
            yield node.name, node.lineno


class Language(unittest.TestCase):
    def assert_none(self, found, rule):
        self.assertEqual([f"{path.name}:{line}: {what}" for path, line, what in found], [], rule)

    def test_files(self):
        others = [
            path.name for path in PACKAGE.rglob("*")
            if path.suffix != ".py" and path.name != "__pycache__" and path.suffix != ".pyc"
        ]
        self.assertEqual(others, [], "L1")
        for path, text, _ in trees():
            self.assertEqual(path.name, path.name.lower(), "L14")
            self.assertLessEqual(len(text.splitlines()), 399, "L10")

    def test_lines_and_characters(self):
        found = []
        for path, text, _ in trees():
            for number, line in enumerate(text.split("\n"), start=1):
                if len(line) > 120 or not all(" " <= sign <= "~" for sign in line):
                    found.append((path, number, line))
        self.assert_none(found, "L10, L14")

    def test_functions_are_small(self):
        found = []
        for path, _, tree in trees():
            for node in nodes(tree, ast.FunctionDef):
                if node.end_lineno - node.lineno + 1 > 40:
                    found.append((path, node.lineno, node.name))
        self.assert_none(found, "L10")

    def test_imports(self):
        found = []
        for path, _, tree in trees():
            used = {node.id for node in nodes(tree, ast.Name)}
            for node in nodes(tree, (ast.Import, ast.ImportFrom)):
                names = [alias.name for alias in node.names]
                module = getattr(node, "module", None) or ""
                own = module.startswith("rowcoders.") and node.level == 0
                if not own and not set(names) <= LIBRARY.get(module, set()):
                    found.append((path, node.lineno, module))
                found.extend((path, node.lineno, name) for name in names if name not in used)
        self.assert_none(found, "L2, L16")

    def test_imports_go_one_way(self):
        reads = {}
        for path, _, tree in trees():
            reads[f"rowcoders.{path.stem}"] = {node.module for node in nodes(tree, ast.ImportFrom)}
        while reads:
            free = [name for name, modules in reads.items() if not modules & set(reads)]
            self.assertNotEqual(free, [], f"L16: {sorted(reads)}")
            for name in free:
                del reads[name]

    def test_statements_and_signs(self):
        found = []
        for path, _, tree in trees():
            found.extend((path, node.lineno, node.__class__.__name__) for node in ast.walk(tree)
                         if isinstance(node, BARRED) and hasattr(node, "lineno"))
            found.extend((path, node.lineno, "/") for node in nodes(tree, (ast.BinOp, ast.AugAssign))
                         if isinstance(node.op, (ast.Div, ast.MatMult)))
            found.extend((path, node.lineno, node.value) for node in nodes(tree, ast.Constant)
                         if isinstance(node.value, (float, complex)))
        self.assert_none(found, "L6, L7")

    def test_double_underscores(self):
        found = []
        for path, _, tree in trees():
            names = [(node.name, node.lineno) for node in nodes(tree, ast.FunctionDef)]
            names += [(node.attr, node.lineno) for node in nodes(tree, ast.Attribute)]
            names += list(bound_names(tree))
            found.extend((path, line, name) for name, line in names
                         if name.startswith("__") and name not in ("__init__", "__eq__", "__len__"))
        self.assert_none(found, "L5, L8")

    def test_desks_are_compared_so_no_generators(self):
        found = []
        for path, _, tree in trees():
            generators = nodes(tree, (ast.GeneratorExp, ast.Yield, ast.YieldFrom))
            found.extend((path, node.lineno, "generator") for node in generators)
            found.extend((path, node.lineno, "sort") for node in nodes(tree, ast.Attribute) if node.attr == "sort")
        self.assert_none(found, "L7, L25")

    def test_attributes_are_assigned_in_the_package_alone(self):
        """Each attribute that is read is assigned by a class, or is a method; none is both."""
        assigned, methods, read = set(), set(), []
        for path, _, tree in trees():
            for node in nodes(tree, ast.ClassDef):
                methods |= {part.name for part in node.body if isinstance(part, ast.FunctionDef)}
            for node in nodes(tree, ast.Attribute):
                if isinstance(node.ctx, ast.Store):
                    assigned.add(node.attr)
                else:
                    read.append((path, node.lineno, node.attr))
        self.assertEqual(assigned & methods, set(), "L18")
        self.assert_none([told for told in read if told[2] not in assigned | methods | METHODS], "L18")

    def test_builtins(self):
        found = []
        for path, _, tree in trees():
            for node in nodes(tree, ast.Name):
                if hasattr(builtins, node.id) and node.id not in BUILTINS:
                    found.append((path, node.lineno, node.id))
            found.extend((path, line, name) for name, line in bound_names(tree)
                         if hasattr(builtins, name) and not name.startswith("__"))
        self.assert_none(found, "L8, L15")

    def test_methods(self):
        own = {node.name for _, _, tree in trees() for node in nodes(tree, ast.FunctionDef)}
        found = []
        for path, _, tree in trees():
            for node in nodes(tree, ast.Call):
                if isinstance(node.func, ast.Attribute) and node.func.attr not in METHODS | own:
                    found.append((path, node.lineno, node.func.attr))
        self.assert_none(found, "L25")


if __name__ == "__main__":
    unittest.main()
