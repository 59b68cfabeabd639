"""The rules of the language: those that can be seen by reading the files of the package.

Where a rule has many cases, only the plain one that the package needs is let through here.
"""

import ast
import builtins
import os
import re
import unittest
import warnings

ROOT = os.path.dirname(os.path.dirname(os.path.abspath(__file__)))
PACKAGE = os.path.join(ROOT, "slowship")
LIBRARY = {
    "heapq": {"heappush", "heappop", "heapify", "heapreplace", "heappushpop"},
    "math": {"gcd", "lcm", "isqrt", "comb", "perm", "factorial"},
    "itertools": {"product", "combinations", "permutations"},
}
BUILTINS = set("""len range enumerate zip min max sum abs sorted reversed int str bool list tuple dict set isinstance ord
    repr any all divmod iter next map Exception ValueError TypeError KeyError IndexError LookupError ZeroDivisionError
    ArithmeticError OverflowError RuntimeError NotImplementedError NotImplemented super property staticmethod
    classmethod""".split())
METHODS = set("""append clear copy count endswith extend find get index insert isalnum isalpha isdigit islower isspace
    isupper items join keys ljust lower lstrip partition pop remove replace reverse rfind rjust rpartition rsplit
    rstrip setdefault split splitlines startswith strip update upper values zfill bit_length add discard isascii
    isdecimal removeprefix removesuffix __init__""".split())
BARRED = set("""register mro elements open input law version_info with_traceback add_note attrgetter breakpoint builtins
    compile copyright credits delattr dir eval exec exit gc getattr globals hasattr help id importlib license locals
    methodcaller os quit setattr type vars sys""".split())
WORDS = """typing typing_extensions enum Enum IntEnum StrEnum Flag IntFlag Generic Protocol ABC ABCMeta namedtuple
    NamedTuple TypedDict TYPE_CHECKING abstractmethod _wall _WallAttr""".split()
STATEMENTS = (ast.Global, ast.AsyncFor, ast.AsyncFunctionDef, ast.AsyncWith, ast.Import, ast.Await)
KEYWORDS = {"sorted": {"key", "reverse"}, "min": {"key", "default"}, "max": {"key", "default"}, "sum": {"start"},
            "enumerate": {"start"}, "zip": {"strict"}}
KEPT_ONCE = {"zip", "enumerate", "reversed", "map"}


def files():
    """The pairs (name, text) of the files of the package."""
    found = []
    for name in sorted(os.listdir(PACKAGE)):
        if name == "__pycache__":
            continue
        with open(os.path.join(PACKAGE, name), encoding="utf-8") as file:
            found.append((name, file.read()))
    return found


def called_name(node):
    return node.func.id if isinstance(node, ast.Call) and isinstance(node.func, ast.Name) else None


def is_set(node):
    return isinstance(node, (ast.SetComp, ast.Set)) or called_name(node) == "set"


class Language(unittest.TestCase):
    def setUp(self):
        self.trees = {name: ast.parse(text) for name, text in files()}
        for tree in self.trees.values():
            for node in ast.walk(tree):
                for below in ast.iter_child_nodes(node):
                    below.above = node

    def nodes(self, *kinds):
        for name, tree in self.trees.items():
            for node in ast.walk(tree):
                if isinstance(node, kinds):
                    yield f"{name}:{getattr(node, 'lineno', 0)}", node

    def test_files(self):
        for name, text in files():
            with self.subTest(name):
                self.assertRegex(name, r"^[a-z0-9_]+\.py$")
                self.assertEqual([sign for sign in text if not (" " <= sign <= "~" or sign == "\n")], [])
                rows = text.splitlines()
                self.assertLess(len(rows), 400)
                self.assertLessEqual(max([len(row) for row in rows]), 120)
                with warnings.catch_warnings():
                    warnings.simplefilter("error")
                    compile(text, name, "exec")

    def test_functions(self):
        for place, node in self.nodes(ast.FunctionDef):
            self.assertLessEqual(node.end_lineno - node.lineno + 1, 40, place)
            self.assertEqual(node.decorator_list, [], place)

    def test_module_level(self):
        for name, tree in self.trees.items():
            names = []
            for node in tree.body:
                kinds = (ast.ImportFrom, ast.FunctionDef, ast.ClassDef, ast.Assign, ast.Expr)
                self.assertIsInstance(node, kinds, name)
                if isinstance(node, ast.Expr):
                    self.assertIsInstance(node.value, ast.Constant, name)
                if isinstance(node, ast.Assign):
                    ast.literal_eval(node.value)
                    names.extend([target.id for target in node.targets])
                if isinstance(node, ast.ImportFrom):
                    names.extend([alias.name for alias in node.names])
                if isinstance(node, (ast.FunctionDef, ast.ClassDef)):
                    names.append(node.name)
            self.assertEqual(len(names), len(set(names)), name)

    def test_imports(self):
        for place, node in self.nodes(ast.ImportFrom):
            self.assertEqual(node.level, 0, place)
            for alias in node.names:
                self.assertIsNone(alias.asname, place)
                if node.module in LIBRARY:
                    self.assertIn(alias.name, LIBRARY[node.module], place)
                    continue
                self.assertTrue(node.module.startswith("slowship."), place)
                tree = self.trees[node.module.split(".")[1] + ".py"]
                made = [one.name for one in tree.body if isinstance(one, (ast.FunctionDef, ast.ClassDef))]
                self.assertIn(alias.name, made, place)

    def test_no_rings_of_imports(self):
        needs = {name: {node.module.split(".")[-1] + ".py" for node in tree.body if isinstance(node, ast.ImportFrom)}
                 for name, tree in self.trees.items()}
        while needs:
            free = [name for name in needs if not needs[name] & set(needs)]
            self.assertTrue(free, needs)
            needs = {name: needs[name] for name in needs if name not in free}

    def test_statements_and_values(self):
        for place, node in self.nodes(ast.AST):
            self.assertNotIsInstance(node, STATEMENTS, place)
            self.assertNotIsInstance(node, (ast.Div, ast.GeneratorExp, ast.Yield, ast.YieldFrom), place)
            if isinstance(node, ast.Constant):
                self.assertNotIsInstance(node.value, (float, complex, bytes), place)
                if isinstance(node.value, str):
                    self.assertNotIn("%", node.value, place)
            if isinstance(node, ast.Compare) and isinstance(node.ops[0], (ast.Is, ast.IsNot)):
                self.assertIsInstance(node.comparators[0], ast.Constant, place)
            if isinstance(node, ast.BinOp) and isinstance(node.op, ast.Pow):
                self.assertIsInstance(node.right, ast.Constant, place)
            if isinstance(node, ast.Raise) and node.exc is not None:
                self.assertIsInstance(node.exc, ast.Call, place)

    def test_names(self):
        for name, text in files():
            for word in WORDS:
                self.assertIsNone(re.search(rf"\b{word}\b", text), (name, word))
        outer = set(dir(builtins))
        for place, node in self.nodes(ast.Name, ast.arg, ast.FunctionDef, ast.ClassDef):
            known = {ast.Name: "id", ast.arg: "arg"}.get(node.__class__, "name")
            word = getattr(node, known)
            self.assertNotIn(word, BARRED, place)
            self.assertFalse(word.startswith("__") and word not in ("__init__", "__eq__", "__len__"), place)
            if word in outer:
                self.assertIn(word, BUILTINS, place)
                self.assertIsInstance(node, ast.Name, place)
                self.assertIsInstance(node.ctx, ast.Load, place)

    def test_no_hidden_imports(self):
        for name, tree in self.trees.items():
            above = [alias.name for node in tree.body if isinstance(node, ast.ImportFrom) for alias in node.names]
            above += [node.name for node in tree.body if isinstance(node, (ast.ClassDef, ast.FunctionDef))]
            for node in ast.walk(tree):
                if isinstance(node, ast.arg):
                    self.assertNotIn(node.arg, above, name)
                if isinstance(node, ast.Name) and isinstance(node.ctx, ast.Store):
                    self.assertNotIn(node.id, above, name)
                if isinstance(node, ast.Name) and node.id == "_":
                    self.assertIsInstance(node.ctx, ast.Store, name)

    def test_calls(self):
        own = {node.name for _, node in self.nodes(ast.FunctionDef)}
        for place, node in self.nodes(ast.Call):
            if isinstance(node.func, ast.Attribute):
                self.assertIn(node.func.attr, METHODS | own, place)
                self.assertEqual(node.keywords, [], place)
                continue
            self.assertIsInstance(node.func, ast.Name, place)
            if node.func.id in BUILTINS:
                keywords = {keyword.arg for keyword in node.keywords}
                self.assertTrue(keywords <= KEYWORDS.get(node.func.id, set()), place)
            if node.func.id in KEPT_ONCE:
                self.assertNotIsInstance(node.above, (ast.Assign, ast.Return, ast.keyword), place)

    def test_stars(self):
        for place, node in self.nodes(ast.Call):
            for part in node.args:
                if isinstance(part, ast.Starred):
                    self.assertIsInstance(part.value, ast.Name, place)
                    self.assertTrue(all(isinstance(one, (ast.Name, ast.Constant, ast.Starred)) for one in node.args), place)
            self.assertTrue(all(keyword.arg for keyword in node.keywords), place)

    def test_classes(self):
        attributes = {node.attr for _, node in self.nodes(ast.Attribute) if isinstance(node.ctx, ast.Store)}
        methods = set()
        for place, node in self.nodes(ast.ClassDef):
            self.assertTrue(all(isinstance(part, (ast.FunctionDef, ast.Expr)) for part in node.body), place)
            methods |= {part.name for part in node.body if isinstance(part, ast.FunctionDef)}
        self.assertEqual(attributes & methods, set())
        self.assertEqual((attributes | methods) & (METHODS | BUILTINS | BARRED), {"__init__"})
        for place, node in self.nodes(ast.Attribute):
            self.assertIn(node.attr, attributes | methods | METHODS, place)

    def test_handlers(self):
        errors = {node.name for node in self.trees["errors.py"].body if isinstance(node, ast.ClassDef)}
        for place, node in self.nodes(ast.FunctionDef):
            handlers = [part for part in ast.walk(node) if isinstance(part, ast.ExceptHandler)]
            kept = [part.name for part in handlers if part.name]
            self.assertEqual(len(kept), len(set(kept)), place)
            for handler in handlers:
                caught = handler.type.elts if isinstance(handler.type, ast.Tuple) else [handler.type]
                self.assertTrue({one.id for one in caught} <= errors, place)

    def test_sets(self):
        for place, node in self.nodes(ast.Call, ast.SetComp, ast.Set):
            if not is_set(node):
                continue
            above = node.above
            if isinstance(above, ast.Assign):
                self.check_stored_set(place, above)
            elif isinstance(above, ast.Compare):
                self.assertIs(above.comparators[0], node, place)
            else:
                self.assertIn(called_name(above), ("sorted", "len"), place)

    def check_stored_set(self, place, assign):
        name = assign.targets[0].id
        function = assign
        while not isinstance(function, ast.FunctionDef):
            function = function.above
        for node in ast.walk(function):
            if not isinstance(node, ast.Name) or node.id != name or node in assign.targets:
                continue
            above = node.above
            if isinstance(above, ast.Attribute):
                self.assertIn(above.attr, ("add", "discard"), place)
                self.assertIsInstance(above.above.above, ast.Expr, place)
            elif isinstance(above, ast.Compare):
                self.assertIsInstance(above.ops[0], (ast.In, ast.NotIn, ast.Eq, ast.NotEq), place)
            else:
                self.assertIn(called_name(above), ("sorted", "len"), place)


if __name__ == "__main__":
    unittest.main()
