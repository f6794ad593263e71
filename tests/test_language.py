"""What can be told of the package's rows without running them: sizes, characters, imports, words."""

import ast
import builtins
import os
import re
import unittest

ROOT = os.path.dirname(os.path.dirname(os.path.abspath(__file__)))
FOLDER = os.path.join(ROOT, "curvepieces")

LIBRARY = {"math": {"gcd", "lcm", "isqrt", "comb", "perm", "factorial"},
           "itertools": {"product", "combinations", "permutations", "chain", "accumulate", "pairwise", "islice",
                         "zip_longest"},
           "heapq": {"heappush", "heappop", "heapify", "heapreplace", "heappushpop"},
           "collections": {"defaultdict"}}

BUILTINS = set("""len range enumerate zip min max sum abs sorted reversed int str bool bytes list tuple dict set
    frozenset isinstance ord repr any all divmod pow getattr hasattr setattr iter next map super property staticmethod
    classmethod Exception ValueError TypeError KeyError IndexError LookupError ZeroDivisionError ArithmeticError
    OverflowError RuntimeError NotImplementedError AttributeError StopIteration NotImplemented""".split())

METHODS = set("""append clear copy count endswith extend find get index insert isalnum isalpha isdigit islower isspace
    isupper items join keys ljust lower lstrip partition pop remove replace reverse rfind rjust rpartition rsplit
    rstrip setdefault split splitlines startswith strip update upper values zfill bit_length""".split())

WORDS = """typing typing_extensions enum Enum IntEnum StrEnum Flag IntFlag Generic Protocol ABC ABCMeta namedtuple
    NamedTuple TypedDict TYPE_CHECKING abstractmethod type register mro elements open input law""".split()

BARRED = (ast.Global, ast.AsyncFunctionDef, ast.AsyncFor, ast.AsyncWith, ast.Await, ast.Div, ast.Import)


def sources():
    """The name and the text of each file of the package."""
    found = []
    for name in sorted(os.listdir(FOLDER)):
        if name != "__pycache__":
            with open(os.path.join(FOLDER, name), encoding="utf-8") as file:
                found.append((name, file.read()))
    return found


def trees():
    return [(name, ast.parse(text)) for name, text in sources()]


def defined(tree):
    """The names that a file defines itself."""
    names = [node.name for node in tree.body if isinstance(node, (ast.FunctionDef, ast.ClassDef))]
    return names + [node.targets[0].id for node in tree.body if isinstance(node, ast.Assign)]


class SizesTest(unittest.TestCase):

    def test_files_lines_and_characters(self):
        self.assertIn("__init__.py", [name for name, _ in sources()])
        self.assertLessEqual(len(sources()), 100)
        for name, text in sources():
            self.assertRegex(name, r"^[a-z_][a-z0-9_]*\.py$")
            lines = text.split("\n")
            self.assertLessEqual(len(text.splitlines()), 399, name)
            for at, line in enumerate(lines):
                self.assertLessEqual(len(line), 120, f"{name}:{at + 1}")
                self.assertRegex(line, r"^[ -~]*$", f"{name}:{at + 1}")

    def test_functions(self):
        for name, tree in trees():
            for node in ast.walk(tree):
                if isinstance(node, (ast.FunctionDef, ast.Lambda)):
                    first = min([node.lineno] + [part.lineno for part in getattr(node, "decorator_list", [])])
                    self.assertLessEqual(node.end_lineno - first + 1, 40, f"{name}:{node.lineno}")


class RowsTest(unittest.TestCase):

    def test_module_level(self):
        for name, tree in trees():
            for at, node in enumerate(tree.body):
                told = at == 0 and isinstance(node, ast.Expr) and isinstance(node.value, ast.Constant)
                let = (ast.ImportFrom, ast.FunctionDef, ast.ClassDef, ast.Assign)
                self.assertTrue(told or isinstance(node, let), f"{name}:{node.lineno}")
            every = defined(tree) + [alias.name for node in tree.body if isinstance(node, ast.ImportFrom)
                                     for alias in node.names]
            self.assertEqual(len(set(every)), len(every), name)

    def test_imports(self):
        own = {"curvepieces." + name[:-3]: defined(tree) for name, tree in trees()}
        ahead = {}
        for name, tree in trees():
            found = [node for node in ast.walk(tree) if isinstance(node, ast.ImportFrom)]
            ahead["curvepieces." + name[:-3]] = [node.module for node in found if node.module in own]
            for node in found:
                let = own.get(node.module, LIBRARY.get(node.module, []))
                self.assertIn(node, tree.body)
                for alias in node.names:
                    self.assertIn(alias.name, let, f"{name}:{node.lineno}")
                    self.assertIsNone(alias.asname)
        while ahead:
            free = [name for name, needs in ahead.items() if not [need for need in needs if need in ahead]]
            self.assertTrue(free, f"files import from each other: {sorted(ahead)}")
            ahead = {name: needs for name, needs in ahead.items() if name not in free}

    def test_statements_and_values(self):
        for name, tree in trees():
            for node in ast.walk(tree):
                where = f"{name}:{getattr(node, 'lineno', '')}"
                self.assertNotIsInstance(node, BARRED, where)
                if isinstance(node, ast.Constant):
                    self.assertNotIsInstance(node.value, (float, complex), where)
                    self.assertFalse(isinstance(node.value, str) and "%" in node.value, where)
                if isinstance(node, ast.Compare):
                    for sign, right in zip(node.ops, node.comparators):
                        if isinstance(sign, (ast.Is, ast.IsNot)):
                            self.assertIn(getattr(right, "value", ""), (None, True, False), where)

    def test_names(self):
        every = {word for word in dir(builtins) if not word.startswith("_")}
        for name, tree in trees():
            taken = set(defined(tree)) | {alias.name for node in tree.body if isinstance(node, ast.ImportFrom)
                                          for alias in node.names}
            for node in ast.walk(tree):
                where = f"{name}:{getattr(node, 'lineno', '')}"
                if isinstance(node, ast.Name) and isinstance(node.ctx, ast.Load) and node.id in every:
                    self.assertIn(node.id, BUILTINS, where)
                bound = [node.id] if isinstance(node, ast.Name) and isinstance(node.ctx, ast.Store) else []
                bound += [node.arg] if isinstance(node, ast.arg) else []
                bound += [node.name] if isinstance(node, (ast.FunctionDef, ast.ClassDef)) else []
                for told in bound:
                    self.assertNotIn(told, every, where)
                    self.assertRegex(told, r"^(_|_?[A-Za-z][A-Za-z0-9_]*|__[a-z]+__)$", where)
                    if isinstance(node, ast.arg) or (isinstance(node, ast.Name) and node not in
                                                     [t for row in tree.body if isinstance(row, ast.Assign)
                                                      for t in row.targets]):
                        self.assertNotIn(told, taken, where)

    def test_methods(self):
        own = {node.name for _, tree in trees() for node in ast.walk(tree) if isinstance(node, ast.FunctionDef)}
        for name, tree in trees():
            for node in ast.walk(tree):
                if isinstance(node, ast.Call) and isinstance(node.func, ast.Attribute):
                    self.assertIn(node.func.attr, METHODS | own, f"{name}:{node.lineno}")

    def test_handlers(self):
        # Own errors, KeyError and ZeroDivisionError: nothing else is caught here.
        own = set(defined(dict(trees())["errors.py"]))
        for name, tree in trees():
            for node in ast.walk(tree):
                if isinstance(node, ast.ExceptHandler):
                    caught = node.type.elts if isinstance(node.type, ast.Tuple) else [node.type]
                    for told in caught:
                        self.assertIn(told.id, own | {"KeyError", "ZeroDivisionError"}, f"{name}:{node.lineno}")
                if isinstance(node, ast.Raise) and node.exc is not None:
                    self.assertIsInstance(node.exc, ast.Call, f"{name}:{node.lineno}")
                    self.assertIn(node.exc.func.id, own | {"TypeError"}, f"{name}:{node.lineno}")

    def test_classes(self):
        assigned, read = set(), {}
        for name, tree in trees():
            for node in ast.walk(tree):
                if isinstance(node, ast.ClassDef):
                    methods = [part.name for part in node.body if isinstance(part, ast.FunctionDef)]
                    self.assertEqual(len(set(methods)), len(methods), node.name)
                    inside = {part.attr for part in ast.walk(node) if isinstance(part, ast.Attribute)
                              and isinstance(part.ctx, ast.Store) and getattr(part.value, "id", "") == "self"}
                    self.assertFalse(inside & set(methods), node.name)
                    self.assertEqual("__getitem__" in methods, "__iter__" in methods)
                if isinstance(node, ast.Attribute) and isinstance(node.ctx, ast.Store):
                    assigned.add(node.attr)
                elif isinstance(node, ast.Attribute):
                    read[node.attr] = f"{name}:{node.lineno}"
        own = {node.name for _, tree in trees() for node in ast.walk(tree) if isinstance(node, ast.FunctionDef)}
        for told, where in read.items():
            self.assertIn(told, assigned | own | METHODS, where)

    def test_stars_in_calls(self):
        for name, tree in trees():
            for node in ast.walk(tree):
                if isinstance(node, ast.Call):
                    for part in node.args:
                        if isinstance(part, ast.Starred):
                            self.assertIsInstance(part.value, ast.Name, f"{name}:{node.lineno}")

    def test_words(self):
        for name, tree in trees():
            for node in ast.walk(tree):
                for told in [getattr(node, key, None) for key in ("id", "attr", "arg", "name", "module")]:
                    if isinstance(told, str):
                        self.assertNotIn(told, WORDS, f"{name}:{node.lineno}")
        for name, text in sources():
            self.assertIsNone(re.search("_wall|_WallAttr", text), name)


if __name__ == "__main__":
    unittest.main()
