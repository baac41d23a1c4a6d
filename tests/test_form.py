"""The form of the package's files: the rules of its language subset that can be seen in the code at once."""

import ast
import builtins
import os
import re
import unittest

FOLDER = os.path.join(os.path.dirname(os.path.dirname(os.path.abspath(__file__))), "keytellers")
LIBRARY = {
    "heapq": {"heappush", "heappop", "heapify", "heapreplace", "heappushpop"},
    "math": {"gcd", "lcm", "isqrt", "comb", "perm", "factorial"},
    "itertools": {"product", "combinations", "permutations", "chain", "accumulate", "pairwise", "islice",
                  "zip_longest"},
    "collections": {"defaultdict", "deque"},
}
BUILTINS = set("""len range enumerate zip min max sum abs sorted reversed int str bool bytes list tuple dict set
frozenset isinstance ord repr any all divmod pow map iter next type Exception ValueError TypeError KeyError IndexError
LookupError ZeroDivisionError ArithmeticError OverflowError RuntimeError NotImplementedError AttributeError
StopIteration NotImplemented super property staticmethod classmethod getattr hasattr setattr
""".split())
BARRED = set("""register mro elements open input law version_info with_traceback add_note attrgetter breakpoint builtins
compile copyright credits delattr dir eval exec exit gc globals help id importlib license locals methodcaller os quit
vars sys typing enum dataclass namedtuple NamedTuple abstractmethod async""".split())
VIEWS = {"range", "enumerate", "zip", "reversed"}
TAKES_VIEWS = {"list", "tuple", "dict", "sorted", "sum", "any", "all", "enumerate", "zip", "min", "max", "len",
               "reversed", "combinations"}
NAMES_OF_BUILTINS = {name for name in dir(builtins) if name[0] != "_"}
STATEMENTS = (ast.FunctionDef, ast.ClassDef, ast.ImportFrom, ast.Assign)


def names_of_files():
    return sorted(name for name in os.listdir(FOLDER) if name != "__pycache__")


def text_of(name):
    with open(os.path.join(FOLDER, name), encoding="utf-8", newline="") as file:
        return file.read()


def is_docstring(node):
    return isinstance(node, ast.Expr) and isinstance(node.value, ast.Constant) and isinstance(node.value.value, str)


def names_defined(tree):
    """The functions, classes and values of a file."""
    found = {node.name for node in tree.body if isinstance(node, (ast.FunctionDef, ast.ClassDef))}
    return found | {one.id for node in tree.body if isinstance(node, ast.Assign) for one in node.targets}


class Form(unittest.TestCase):
    def trees(self):
        for name in names_of_files():
            yield name, ast.parse(text_of(name))

    def nodes(self, *kinds):
        for name, tree in self.trees():
            for node in ast.walk(tree):
                if isinstance(node, kinds):
                    yield name, node

    def test_files(self):
        for name in names_of_files():
            self.assertRegex(name, r"\A[a-z0-9_]+\.py\Z")
            lines = text_of(name).split("\n")
            self.assertLessEqual(len(lines), 400, name)
            for at, line in enumerate(lines, 1):
                self.assertLessEqual(len(line), 120, f"{name}:{at}")
                self.assertRegex(line, r"\A[ -~]*\Z", f"{name}:{at}")

    def test_functions_are_short(self):
        for name, node in self.nodes(ast.FunctionDef):
            self.assertLessEqual(node.end_lineno - node.lineno + 1, 40, f"{name}:{node.lineno}")
            self.assertEqual(node.decorator_list, [], f"{name}:{node.lineno}")

    def test_module_level(self):
        for name, tree in self.trees():
            for at, node in enumerate(tree.body):
                self.assertTrue(isinstance(node, STATEMENTS) or at == 0 and is_docstring(node), f"{name}:{node.lineno}")
            self.assertIsNotNone(ast.get_docstring(tree), name)

    def test_imports(self):
        self.assertEqual(list(self.nodes(ast.Import)), [])
        defined = {name[:-3]: names_defined(tree) for name, tree in self.trees()}
        for name, node in self.nodes(ast.ImportFrom):
            first, _, file = node.module.partition(".")
            known = defined[file] if first == "keytellers" else LIBRARY[node.module]
            self.assertEqual(node.level, 0)
            for one in node.names:
                self.assertIn(one.name, known, f"{name}:{node.lineno}")
                self.assertIsNone(one.asname)

    def test_imports_go_round_nowhere(self):
        needs = {}
        for name, node in self.nodes(ast.ImportFrom):
            if node.module.startswith("keytellers."):
                needs.setdefault(name[:-3], set()).add(node.module.partition(".")[2])
        done = set()
        waiting = {name[:-3] for name in names_of_files()}
        while waiting:
            ready = {name for name in waiting if needs.get(name, set()) <= done}
            self.assertTrue(ready, waiting)
            done |= ready
            waiting -= ready

    def test_imports_are_used(self):
        for name, tree in self.trees():
            read = {node.id for node in ast.walk(tree) if isinstance(node, ast.Name)}
            bound = [one.name for node in tree.body if isinstance(node, ast.ImportFrom) for one in node.names]
            self.assertEqual([one for one in bound if one not in read], [], name)
            self.assertEqual(len(bound), len(set(bound)), name)

    def test_names(self):
        for name, tree in self.trees():
            imported = {one.name for node in tree.body if isinstance(node, ast.ImportFrom) for one in node.names}
            classes = {node.name for node in tree.body if isinstance(node, ast.ClassDef)}
            local = [node.arg for node in ast.walk(tree) if isinstance(node, ast.arg)]
            names = [node for node in ast.walk(tree) if isinstance(node, ast.Name)]
            local += [node.id for node in names if isinstance(node.ctx, ast.Store)]
            told = local + [node.name for node in ast.walk(tree) if isinstance(node, (ast.FunctionDef, ast.ClassDef))]
            for one in local:
                self.assertNotIn(one, imported | classes, name)
            for one in told:
                self.assertNotIn(one, BARRED | NAMES_OF_BUILTINS, name)

    def test_builtins(self):
        for name, node in self.nodes(ast.Name):
            if isinstance(node.ctx, ast.Load) and node.id in NAMES_OF_BUILTINS:
                self.assertIn(node.id, BUILTINS, f"{name}:{node.lineno}")

    def test_views_are_iterated_at_once(self):
        for name, tree in self.trees():
            fit = []
            for node in ast.walk(tree):
                if isinstance(node, (ast.For, ast.comprehension)):
                    fit.append(node.iter)
                if isinstance(node, ast.Call) and isinstance(node.func, ast.Name) and node.func.id in TAKES_VIEWS:
                    fit += node.args
                if isinstance(node, ast.Compare):
                    fit += [two for one, two in zip(node.ops, node.comparators) if isinstance(one, (ast.In, ast.NotIn))]
            for node in ast.walk(tree):
                if isinstance(node, ast.Call) and isinstance(node.func, ast.Name) and node.func.id in VIEWS:
                    self.assertTrue(any(node is one for one in fit), f"{name}:{node.lineno}")

    def test_values(self):
        for name, node in self.nodes(ast.Constant):
            self.assertNotIsInstance(node.value, (float, complex), f"{name}:{node.lineno}")
            if isinstance(node.value, str):
                self.assertNotIn("%", node.value, f"{name}:{node.lineno}")
        self.assertEqual(list(self.nodes(ast.Div, ast.Global, ast.AsyncFunctionDef, ast.Await)), [])

    def test_tests_stand_outside(self):
        for name in names_of_files():
            self.assertFalse(re.match(r"test|conftest|law_|site", name), name)


if __name__ == "__main__":
    unittest.main()
