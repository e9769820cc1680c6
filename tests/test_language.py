"""What can be seen of shared/LANGUAGE.md in the files of the package, rule by rule."""

import ast
import builtins
import re
import unittest
from pathlib import Path

PACKAGE = Path(__file__).resolve().parent.parent / "whatmovesbuy"
FILES = sorted(path for path in PACKAGE.rglob("*") if path.is_file() and "__pycache__" not in path.parts)
LIBRARY = {
    "heapq": {"heappush", "heappop", "heapify", "heapreplace", "heappushpop"},
    "math": {"gcd", "lcm", "isqrt", "comb", "perm", "factorial"},
    "itertools": {"product", "combinations", "permutations", "chain", "accumulate", "pairwise", "islice",
                  "zip_longest"},
    "collections": {"defaultdict", "deque"},
}
BUILTINS = set(
    "len range enumerate zip min max sum abs sorted reversed int str bool list tuple dict set isinstance ord repr "
    "any all divmod pow getattr hasattr setattr iter next map property staticmethod classmethod super Exception "
    "ValueError TypeError KeyError IndexError LookupError ZeroDivisionError ArithmeticError OverflowError RuntimeError "
    "NotImplementedError AttributeError StopIteration NotImplemented".split())
PYTHONS_OWN = {name for name in dir(builtins) if not name.startswith("_")}
BARRED_NODES = (ast.Global, ast.AsyncFunctionDef, ast.AsyncFor, ast.Await, ast.Div)
BARRED_WORDS = re.compile(r"\b(type|typing|enum|Enum|Generic|Protocol|ABC|namedtuple|NamedTuple|TypedDict)\b|dataclass")


def tree_of(path):
    """The parsed file."""
    return ast.parse(path.read_text(encoding="utf-8"))


def bound_names(tree):
    """All names that a file gives a meaning to: variables, parameters, functions, classes, imports; no methods."""
    methods = [node for one in ast.walk(tree) if isinstance(one, ast.ClassDef) for node in one.body]
    for node in ast.walk(tree):
        if isinstance(node, (ast.FunctionDef, ast.ClassDef)):
            if node not in methods:
                yield node.name
        elif isinstance(node, ast.arg):
            yield node.arg
        elif isinstance(node, ast.Name) and isinstance(node.ctx, ast.Store):
            yield node.id
        elif isinstance(node, ast.alias):
            yield node.asname or node.name


class Language(unittest.TestCase):
    def test_files(self):
        for path in FILES:
            self.assertRegex(path.name, r"\A([a-z][a-z0-9_]*|__init__|__main__)\.py\Z")
            text = path.read_text(encoding="utf-8")
            self.assertRegex(text, r"\A[ -~\n]*\Z", path.name)
            lines = text.splitlines()
            self.assertLessEqual(len(lines), 399, path.name)
            self.assertLessEqual(max(map(len, lines), default=0), 120, path.name)
            self.assertFalse([line for line in lines if line != line.rstrip()], path.name)

    def test_length_of_functions(self):
        for path in FILES:
            for node in ast.walk(tree_of(path)):
                if isinstance(node, ast.FunctionDef):
                    self.assertLessEqual(node.end_lineno - node.lineno + 1, 40, node.name)

    def test_imports(self):
        for path in FILES:
            tree = tree_of(path)
            inner = [node for node in ast.walk(tree) if isinstance(node, (ast.Import, ast.ImportFrom))]
            self.assertEqual(inner, [node for node in tree.body if isinstance(node, (ast.Import, ast.ImportFrom))])
            for node in inner:
                self.assertIsInstance(node, ast.ImportFrom, path.name)
                self.assertEqual(node.level, 0)
                names = {alias.name for alias in node.names}
                if node.module in LIBRARY:
                    self.assertLessEqual(names, LIBRARY[node.module])
                    continue
                top, name = node.module.split(".")
                self.assertEqual(top, "whatmovesbuy")
                other = tree_of(PACKAGE / (name + ".py"))
                self.assertLessEqual(names, {one.name for one in other.body if hasattr(one, "name")}
                                     | {target.id for one in other.body if isinstance(one, ast.Assign)
                                        for target in one.targets}, path.name)

    def test_no_two_files_import_each_other(self):
        imports = {path.stem: {node.module.split(".")[-1] for node in tree_of(path).body
                               if isinstance(node, ast.ImportFrom) and node.module.startswith("whatmovesbuy.")}
                   for path in FILES}
        placed = set()
        while len(placed) < len(imports):
            ready = {name for name in imports if name not in placed and imports[name] <= placed}
            self.assertTrue(ready, sorted(set(imports) - placed))
            placed |= ready

    def test_module_level(self):
        for path in FILES:
            for node in tree_of(path).body:
                if isinstance(node, ast.Expr):
                    self.assertIsInstance(node.value, ast.Constant, path.name)
                else:
                    self.assertIsInstance(node, (ast.ImportFrom, ast.FunctionDef, ast.ClassDef, ast.Assign), path.name)

    def test_names(self):
        for path in FILES:
            tree = tree_of(path)
            bound = list(bound_names(tree))
            for name in bound:
                self.assertNotIn(name, PYTHONS_OWN, path.name)
            for node in ast.walk(tree):
                if isinstance(node, ast.Name) and node.id in PYTHONS_OWN:
                    self.assertIn(node.id, BUILTINS, path.name)
            top = [name for node in tree.body for name in bound_names(node)
                   if isinstance(node, (ast.ImportFrom, ast.Assign))]
            top += [node.name for node in tree.body if isinstance(node, (ast.FunctionDef, ast.ClassDef))]
            self.assertEqual(len(top), len(set(top)), path.name)

    def test_no_inner_name_is_that_of_an_import_or_a_class(self):
        for path in FILES:
            tree = tree_of(path)
            told = {alias.asname or alias.name for node in tree.body if isinstance(node, ast.ImportFrom)
                    for alias in node.names} | {node.name for node in tree.body if isinstance(node, ast.ClassDef)}
            for node in ast.walk(tree):
                if isinstance(node, ast.FunctionDef):
                    inner = set(bound_names(node)) - ({node.name} if node in tree.body else set())
                    self.assertFalse(inner & told, f"{path.name}: {node.name}")

    def test_methods_of_one_name_take_alike(self):
        # a caller of store.take(size) need not know which store it is
        found = {}
        for path in FILES:
            for one in ast.walk(tree_of(path)):
                for node in one.body if isinstance(one, ast.ClassDef) else ():
                    if isinstance(node, ast.FunctionDef) and node.name != "__init__":
                        found.setdefault(node.name, set()).add(tuple(part.arg for part in node.args.args))
        for name, told in found.items():
            self.assertEqual(len(told), 1, name)

    def test_no_name_is_a_method_and_an_attribute(self):
        methods, attributes = set(), set()
        for path in FILES:
            for node in ast.walk(tree_of(path)):
                if isinstance(node, ast.ClassDef):
                    methods |= {part.name for part in node.body if isinstance(part, ast.FunctionDef)}
                if isinstance(node, ast.Attribute) and isinstance(node.ctx, ast.Store):
                    attributes.add(node.attr)
        self.assertFalse(methods & attributes)

    def test_statements(self):
        for path in FILES:
            for node in ast.walk(tree_of(path)):
                self.assertNotIsInstance(node, BARRED_NODES, path.name)
                if isinstance(node, ast.Constant):
                    self.assertNotIsInstance(node.value, (float, complex, bytes))
                if isinstance(node, ast.ExceptHandler):
                    self.assertIsNotNone(node.type, path.name)

    def test_words(self):
        for path in FILES:
            for node in ast.walk(tree_of(path)):
                for word in (getattr(node, "id", None), getattr(node, "attr", None), getattr(node, "arg", None)):
                    if isinstance(word, str):
                        self.assertIsNone(BARRED_WORDS.search(word), path.name)


if __name__ == "__main__":
    unittest.main()
