"""The package keeps to the plain subset of Python, as far as a look at its code can tell."""

import ast
import builtins
import os
import re
import unittest

FOLDER = os.path.join(os.path.dirname(os.path.dirname(os.path.abspath(__file__))), "jointkeys")
CALLED = set("""len range enumerate zip min max sum abs sorted reversed int str bool list tuple dict set
    isinstance repr any all divmod type""".split())
METHODS = set("""append clear copy count endswith extend find get index insert isalnum isalpha isdigit islower
    isspace isupper items join keys ljust lower lstrip partition pop remove replace reverse rfind rjust
    rpartition rsplit rstrip setdefault split splitlines startswith strip update upper values zfill
    bit_length removeprefix removesuffix rindex isascii add discard""".split())
LIBRARY = {"heapq": {"heappush", "heappop", "heapify"}, "math": {"gcd", "lcm", "isqrt", "comb"},
           "itertools": {"accumulate"}, "collections": {"deque", "defaultdict"}}
BARRED = re.compile(r"\b(typing|enum|Enum|Generic|Protocol|ABC|namedtuple|register|mro|elements|law|"
                    r"global|async|chr|eval|exec|float)\b|dataclass|overload|contextmanager|_wall|[^ -~\n]")
NOT_AS_NAMES = {"open", "input", "exit", "id", "vars", "dir", "help", "os", "gc", "sys"}
NODES = (ast.GeneratorExp, ast.Global, ast.AsyncFunctionDef, ast.Await, ast.AnnAssign, ast.Set, ast.Div)
CAUGHT = {"KeyError", "ZeroDivisionError"}
DOUBLE = {"__init__", "__eq__", "__repr__", "__str__", "__len__"}


def files():
    return sorted(os.listdir(FOLDER)) if os.path.isdir(FOLDER) else []


def sources():
    found = {}
    for name in files():
        if name != "__pycache__":
            with open(os.path.join(FOLDER, name), encoding="utf-8") as file:
                found[name] = file.read()
    return found


def trees():
    return {name: ast.parse(source) for name, source in sources().items()}


def nodes(kind):
    return [(name, node) for name, tree in trees().items() for node in ast.walk(tree) if isinstance(node, kind)]


def docstrings(tree):
    """The constants that are docstrings; they may hold words that code may not."""
    holders = [node for node in ast.walk(tree)
               if isinstance(node, (ast.Module, ast.ClassDef, ast.FunctionDef)) and ast.get_docstring(node)]
    return [id(holder.body[0].value) for holder in holders]


class Language(unittest.TestCase):

    def test_files(self):
        self.assertIn("__init__.py", files())
        for name, source in sources().items():
            self.assertRegex(name, r"\A[a-z_]+\.py\Z")
            lines = source.split("\n")
            self.assertLess(len(lines), 400, name)
            self.assertLessEqual(max(len(line) for line in lines), 120, name)

    def test_functions_are_short(self):
        for name, node in nodes(ast.FunctionDef):
            self.assertLessEqual(node.end_lineno - node.lineno + 1, 40, (name, node.name))
            self.assertEqual(node.decorator_list, [], (name, node.name))

    def test_words(self):
        for name, tree in trees().items():
            left_out = docstrings(tree)
            for node in ast.walk(tree):
                words = [getattr(node, key, "") for key in ("id", "attr", "name", "arg")]
                self.assertFalse(NOT_AS_NAMES & set(words), name)
                if isinstance(node, ast.Constant) and isinstance(node.value, str) and id(node) not in left_out:
                    words.append(node.value)
                    self.assertNotIn("%", node.value, name)
                for word in words:
                    self.assertIsNone(BARRED.search(word or ""), (name, word))

    def test_statements_and_expressions(self):
        for kind in NODES:
            self.assertEqual([(name, node.lineno) for name, node in nodes(kind) if hasattr(node, "lineno")], [])
        for name, node in nodes(ast.Constant):
            self.assertNotIsInstance(node.value, (float, complex), name)
        for name, node in nodes(ast.BinOp):
            if isinstance(node.op, ast.Pow):
                self.assertIsInstance(node.right, ast.Constant, name)
                self.assertLessEqual(node.right.value, 64, name)

    def test_imports(self):
        self.assertEqual(nodes(ast.Import), [])
        defined = {name[:-3]: {node.name for node in tree.body if hasattr(node, "name")}
                   | {node.targets[0].id for node in tree.body if isinstance(node, ast.Assign)}
                   for name, tree in trees().items()}
        for name, node in nodes(ast.ImportFrom):
            allowed = LIBRARY.get(node.module)
            if allowed is None:
                package, _, file = node.module.partition(".")
                self.assertEqual((package, node.level), ("jointkeys", 0), name)
                allowed = defined[file]
            for each in node.names:
                self.assertIn(each.name, allowed, name)
                self.assertIsNone(each.asname, name)

    def test_calls(self):
        methods = {node.name for _, node in nodes(ast.FunctionDef)}
        known = set(dir(builtins))
        for name, node in nodes(ast.Call):
            if isinstance(node.func, ast.Name) and node.func.id in known:
                self.assertIn(node.func.id, CALLED, (name, node.lineno))
            if isinstance(node.func, ast.Attribute):
                self.assertIn(node.func.attr, METHODS | methods, (name, node.lineno))

    def test_no_name_is_one_of_a_builtin(self):
        known = set(dir(builtins))
        for name, node in nodes((ast.FunctionDef, ast.ClassDef)):
            if isinstance(node, ast.ClassDef) or node.name[:2] == "__":
                continue
            self.assertNotIn(node.name, known, name)
            taken = {each.arg for each in node.args.args}
            taken |= {each.id for each in ast.walk(node)
                      if isinstance(each, ast.Name) and isinstance(each.ctx, ast.Store)}
            self.assertEqual(taken & known, set(), (name, node.name))

    def test_double_underscores(self):
        for name, node in nodes(ast.FunctionDef):
            if node.name.startswith("__"):
                self.assertIn(node.name, DOUBLE, name)

    def test_handlers(self):
        for name, node in nodes(ast.ExceptHandler):
            caught = node.type.elts if isinstance(node.type, ast.Tuple) else [node.type]
            for each in caught:
                self.assertTrue(each.id in CAUGHT or each.id not in dir(builtins), (name, node.lineno))

    def test_no_circle_of_imports(self):
        needs = {name[:-3]: set() for name in sources()}
        for name, node in nodes(ast.ImportFrom):
            if node.module.startswith("jointkeys."):
                needs[name[:-3]].add(node.module.partition(".")[2])
        while needs:
            free = [name for name, wanted in needs.items() if not wanted & set(needs)]
            self.assertNotEqual(free, [], needs)
            needs = {name: wanted for name, wanted in needs.items() if name not in free}


if __name__ == "__main__":
    unittest.main()
