"""Holds the files of the package against the rules of LANGUAGE.md that a plain look at them can tell."""

import ast
import builtins
import re
import unittest
from pathlib import Path

PACKAGE = Path(__file__).resolve().parent.parent / "cherrystone"
FILES = sorted(PACKAGE.rglob("*.py"))
TREES = {path: ast.parse(path.read_text("utf-8")) for path in FILES}

LIBRARY = {
    "heapq": {"heappush", "heappop", "heapify", "heapreplace", "heappushpop"},
    "math": {"gcd", "lcm", "isqrt", "comb", "perm", "factorial"},
    "itertools": {"product", "combinations", "permutations"},
}
BUILTINS = set("""
    len range enumerate zip min max sum abs sorted reversed int str bool bytes list tuple dict set isinstance ord repr
    any all divmod Exception ValueError TypeError KeyError IndexError LookupError ZeroDivisionError property
    staticmethod classmethod NotImplemented iter next map
""".split())
METHODS = set("""
    append clear copy count endswith extend find get index insert isalnum isalpha isdigit islower isspace isupper items
    join keys ljust lower lstrip partition pop remove replace reverse rfind rjust rpartition rsplit rstrip setdefault
    split splitlines startswith strip update upper values zfill bit_length removeprefix removesuffix isascii isdecimal
    add discard
""".split())
WORDS = re.compile(r"\b(typing|enum|Enum|namedtuple|NamedTuple|abstractmethod|_wall)\b|dataclass|overload")
BARRED = {"register", "mro", "elements", "open", "input", "law", "version_info", "eval", "exec", "dir", "vars", "id"}
LAZY = {"zip", "enumerate", "reversed", "range", "map"}
EAGER = {"list", "tuple", "dict", "sorted", "sum", "any", "all", "enumerate", "zip", "min", "max", "join", "len"}
DECORATORS = ("property", "setter", "staticmethod", "classmethod")
DUNDERS = re.compile(r"__(?!init__$|eq__$|len__$|str__$|repr__$)")
OUTSIDE = (
    ast.Global, ast.AsyncFunctionDef, ast.AsyncFor, ast.AsyncWith, ast.Await, ast.Div, ast.MatMult, ast.Import,
)


def nodes(kind):
    """All nodes of a kind, with their files and the nodes above them."""
    for path, tree in TREES.items():
        above = {child: node for node in ast.walk(tree) for child in ast.iter_child_nodes(node)}
        for node in ast.walk(tree):
            if isinstance(node, kind):
                yield path.name, node, above.get(node)


def called(node):
    """The name of the function or method that a call calls, or None."""
    if not isinstance(node, ast.Call):
        return None
    return getattr(node.func, "id", None) or getattr(node.func, "attr", None)


def own_methods():
    return {node.name for _, node, above in nodes(ast.FunctionDef) if isinstance(above, ast.ClassDef)}


def bound_names():
    for name, node, _ in nodes((ast.Name, ast.arg, ast.FunctionDef, ast.ClassDef, ast.alias)):
        if isinstance(node, ast.Name) and not isinstance(node.ctx, ast.Store):
            continue
        bound = getattr(node, "id", None) or getattr(node, "arg", None) or getattr(node, "name", None)
        yield name, node, bound


class Language(unittest.TestCase):
    def fail_at(self, rule, name, node):
        self.fail(f"{rule}: {name}, line {getattr(node, 'lineno', '?')}")

    def test_folder_holds_python_files_alone(self):
        found = [path for path in PACKAGE.rglob("*") if "__pycache__" not in path.parts and path.is_file()]
        self.assertEqual(sorted(found), FILES)
        self.assertIn(PACKAGE / "__init__.py", FILES)
        for path in FILES:
            self.assertRegex(path.name, r"^[a-z0-9_]+\.py$")

    def test_sizes_and_characters(self):
        for path in FILES:
            lines = path.read_text("utf-8").split("\n")
            self.assertLessEqual(len(lines), 399, path)
            for at, line in enumerate(lines, 1):
                self.assertLessEqual(len(line), 120, (path, at))
                self.assertTrue(all(" " <= letter <= "~" for letter in line), (path, at))
        for name, node, _ in nodes(ast.FunctionDef):
            self.assertLessEqual(node.end_lineno - node.lineno + 1, 40, (name, node.name))

    def test_module_level(self):
        for path, tree in TREES.items():
            for node in tree.body:
                plain = isinstance(node, ast.Assign) and not any(called(part) for part in ast.walk(node))
                words = isinstance(node, ast.Expr) and isinstance(node.value, ast.Constant)
                if not plain and not words and not isinstance(node, (ast.ImportFrom, ast.FunctionDef, ast.ClassDef)):
                    self.fail_at("L3", path.name, node)

    def test_imports(self):
        for name, node, above in nodes(ast.ImportFrom):
            self.assertIsInstance(above, ast.Module)
            self.assertEqual(node.level, 0)
            taken = {alias.name for alias in node.names}
            self.assertTrue(all(alias.asname is None for alias in node.names), name)
            if node.module.startswith("cherrystone."):
                tree = TREES[PACKAGE / (node.module.split(".")[1] + ".py")]
                defined = {part.name for part in tree.body if isinstance(part, (ast.FunctionDef, ast.ClassDef))}
                defined |= {part.targets[0].id for part in tree.body if isinstance(part, ast.Assign)}
            else:
                defined = LIBRARY[node.module]
            self.assertLessEqual(taken, defined, name)

    def test_no_files_import_from_each_other(self):
        wanted = {}
        for name, node, _ in nodes(ast.ImportFrom):
            wanted.setdefault(name, set()).add(node.module.split(".")[-1] + ".py")
        done = set()
        while len(done) < len(FILES):
            ready = {path.name for path in FILES if wanted.get(path.name, set()) <= done | {f"{m}.py" for m in LIBRARY}}
            self.assertTrue(ready - done, "L16")
            done |= ready

    def test_parts_of_the_language(self):
        for name, node, _ in nodes(OUTSIDE):
            self.fail_at("L6, L7", name, node)
        for name, node, _ in nodes(ast.Constant):
            if isinstance(node.value, (float, complex)) or node.value is Ellipsis:
                self.fail_at("L7", name, node)
            if isinstance(node.value, str) and ("%" in node.value or "\\" in node.value):
                self.fail_at("L27", name, node)
        for name, node, _ in nodes(ast.Compare):
            for sign, side in zip(node.ops, node.comparators):
                if isinstance(sign, (ast.Is, ast.IsNot)) and not isinstance(side, ast.Constant):
                    self.fail_at("L20", name, node)
        for name, node, _ in nodes(ast.FunctionDef):
            for mark in node.decorator_list:
                if getattr(mark, "id", getattr(mark, "attr", None)) not in DECORATORS:
                    self.fail_at("L4", name, node)

    def test_exponents(self):
        for name, node, _ in nodes(ast.FunctionDef):
            loops = [part for part in ast.walk(node) if isinstance(part, ast.For) and called(part.iter) == "range"]
            plain = {part.target.id for part in loops if all(isinstance(end, ast.Constant) for end in part.iter.args)}
            for part in ast.walk(node):
                if isinstance(part, ast.BinOp) and isinstance(part.op, ast.Pow):
                    if not isinstance(part.right, ast.Constant) and getattr(part.right, "id", None) not in plain:
                        self.fail_at("L27", name, part)

    def test_names(self):
        for name, node, bound in bound_names():
            if bound in dir(builtins) or bound in BARRED or DUNDERS.match(bound):
                self.fail_at("L15, L17", name, node)
        for name, node, _ in nodes(ast.Name):
            if node.id in dir(builtins) and node.id not in BUILTINS:
                self.fail_at("L8", name, node)
        for path in FILES:
            self.assertIsNone(WORDS.search(path.read_text("utf-8")), path)

    def test_methods(self):
        known = METHODS | own_methods()
        for name, node, _ in nodes(ast.Call):
            if isinstance(node.func, ast.Attribute) and node.func.attr not in known:
                self.fail_at("L25", name, node)

    def test_generator_expressions(self):
        # A class of the package has __eq__; there lists stand in their place.
        for name, node, _ in nodes(ast.GeneratorExp):
            self.fail_at("L7", name, node)

    def test_sets_are_not_iterated_or_passed_on(self):
        for name, node, above in nodes((ast.Set, ast.SetComp, ast.Call)):
            if isinstance(node, ast.Call) and called(node) != "set":
                continue
            stored = isinstance(above, ast.Assign) and isinstance(above.targets[0], ast.Name)
            used = called(above) in ("sorted", "len") or isinstance(above, (ast.Compare, ast.BinOp))
            if not stored and not used:
                self.fail_at("L24", name, node)

    def test_iterated_at_once(self):
        for name, node, above in nodes(ast.Call):
            views = isinstance(node.func, ast.Attribute) and called(node) in ("items", "keys", "values")
            if called(node) not in LAZY and not views:
                continue
            spot = isinstance(above, (ast.For, ast.comprehension)) or called(above) in EAGER
            if not spot and not isinstance(above, ast.Compare):
                self.fail_at("L23", name, node)


if __name__ == "__main__":
    unittest.main()
