"""The rules of the language subset that a look at the syntax trees of the package can judge."""

import ast
import builtins
import pathlib
import re
import unittest

FOLDER = pathlib.Path(__file__).resolve().parent.parent / "fairpatch"
BUILTINS = set(
    "len range enumerate zip min max sum abs sorted reversed int str bool list tuple dict set isinstance ord repr any all "
    "divmod ValueError".split())
LIBRARY = {
    "math": {"gcd", "lcm", "isqrt", "comb", "perm", "factorial"},
    "heapq": {"heappush", "heappop", "heapify"},
    "itertools": {"product", "combinations", "permutations"},
}
METHODS = set(
    "append clear copy count endswith extend find get index insert isalnum isalpha isdigit islower isspace isupper items "
    "join keys ljust lower lstrip partition pop remove replace reverse rfind rjust rpartition rsplit rstrip setdefault "
    "split splitlines startswith strip update upper values zfill bit_length".split())
DOUBLE = set("__init__ __eq__ __str__ __len__ __contains__ __add__ __radd__ __sub__ __rsub__ __mul__ __rmul__ __neg__".split())
BARRED_NAMES = set(
    "register mro elements open input law version_info with_traceback add_note attrgetter breakpoint builtins compile "
    "copyright credits delattr dir eval exec exit gc getattr globals hasattr help id importlib license locals methodcaller "
    "os quit setattr super type vars sys".split())
BARRED_WORDS = re.compile(
    r"\b(type|typing|enum|Enum|Flag|Generic|Protocol|ABC|namedtuple|NamedTuple|TypedDict|abstractmethod)\b|dataclass|overload")
BARRED_NODES = (
    ast.Global, ast.Nonlocal, ast.AsyncFunctionDef, ast.Await, ast.Yield, ast.YieldFrom, ast.With, ast.Match,
    ast.Div, ast.GeneratorExp, ast.AnnAssign, ast.NamedExpr, ast.SetComp, ast.Set, ast.Delete, ast.Import,
)
BUILTIN_ATTRIBUTES = set().union(*[dir(one) for one in (str, int, list, dict, set, bytes, tuple, bool)])


def trees():
    return {path.stem: ast.parse(path.read_text()) for path in sorted(FOLDER.glob("*.py"))}


def bound_at_top(tree):
    found = []
    for node in tree.body:
        if isinstance(node, (ast.FunctionDef, ast.ClassDef)):
            found.append(node.name)
        elif isinstance(node, ast.Assign):
            found.extend(target.id for target in node.targets)
        elif isinstance(node, ast.ImportFrom):
            found.extend(alias.asname or alias.name for alias in node.names)
    return found


def local_names(function):
    found = {argument.arg for argument in ast.walk(function) if isinstance(argument, ast.arg)}
    return found | {node.id for node in ast.walk(function) if isinstance(node, ast.Name) and isinstance(node.ctx, ast.Store)}


class LanguageTests(unittest.TestCase):
    def setUp(self):
        self.trees = trees()

    def nodes(self, *kinds):
        for name, tree in self.trees.items():
            for node in ast.walk(tree):
                if isinstance(node, kinds):
                    yield name, node

    def test_files(self):
        for path in FOLDER.iterdir():
            if path.name == "__pycache__":
                continue
            self.assertRegex(path.name, r"^[a-z_]+\.py$")
            text = path.read_text()
            self.assertTrue(set(text) <= {chr(code) for code in range(32, 127)} | {"\n"}, path)
            lines = text.split("\n")
            self.assertLessEqual(len(lines) - 1, 399, path)
            self.assertLessEqual(max(len(line) for line in lines), 120, path)
            self.assertNotRegex(text, r"_wall|_WallAttr")
            self.assertTrue(text.endswith("\n"))
        self.assertEqual(bound_at_top(self.trees["__init__"]), [])

    def test_functions(self):
        for name, node in self.nodes(ast.FunctionDef):
            self.assertLessEqual(node.end_lineno - node.lineno + 1, 40, (name, node.name))
            self.assertEqual(node.decorator_list, [])
            self.assertIsNotNone(ast.get_docstring(node) or node.name.startswith("__") or None, (name, node.name))
            for other in ast.walk(node):
                self.assertFalse(other is not node and isinstance(other, ast.FunctionDef))

    def test_statements_and_expressions(self):
        for name, node in self.nodes(*BARRED_NODES):
            self.fail((name, node.lineno, node))
        for name, node in self.nodes(ast.Constant):
            self.assertNotIsInstance(node.value, (float, bytes, complex))
            if isinstance(node.value, str):
                self.assertNotIn("%", node.value)
                self.assertFalse(node.value.startswith("__"))
        for name, node in self.nodes(ast.Compare):
            for sign, right in zip(node.ops, node.comparators):
                if isinstance(sign, (ast.Is, ast.IsNot)):
                    self.assertIsInstance(right, ast.Constant)
        for name, node in self.nodes(ast.Raise):
            self.assertIsInstance(node.exc, ast.Call)
        for name, node in self.nodes(ast.BinOp):
            if isinstance(node.op, ast.Pow):
                self.assertIsInstance(node.left, ast.Constant, name)
                self.assertIsInstance(node.right, ast.Constant, name)

    def test_handlers(self):
        own = {node.name for node in self.trees["errors"].body if isinstance(node, ast.ClassDef)}
        for name, node in self.nodes(ast.Try):
            self.assertEqual(node.finalbody, [], name)
            for handler in node.handlers:
                caught = handler.type.elts if isinstance(handler.type, ast.Tuple) else [handler.type]
                self.assertTrue({one.id for one in caught} <= own, name)
                self.assertIsNone(handler.name)

    def test_imports(self):
        goes_to = {}
        for name, node in self.nodes(ast.ImportFrom):
            self.assertEqual(node.level, 0)
            self.assertFalse([alias for alias in node.names if alias.asname])
            imported = {alias.name for alias in node.names}
            if node.module in LIBRARY:
                self.assertTrue(imported <= LIBRARY[node.module])
                continue
            folder, module = node.module.split(".")
            self.assertEqual(folder, "fairpatch")
            defined = [one.name for one in self.trees[module].body if isinstance(one, (ast.FunctionDef, ast.ClassDef))]
            constants = [one.targets[0].id for one in self.trees[module].body if isinstance(one, ast.Assign)]
            self.assertTrue(imported <= set(defined + constants), (name, node.module))
            goes_to.setdefault(name, set()).add(module)
        left = set(self.trees)
        while left:
            free = {name for name in left if not goes_to.get(name, set()) & left}
            self.assertTrue(free, "imports go round")
            left -= free

    def test_names(self):
        for name, tree in self.trees.items():
            top = bound_at_top(tree)
            self.assertEqual(len(top), len(set(top)), name)
            used = {node.id for node in ast.walk(tree) if isinstance(node, ast.Name)}
            classes = {node.name for node in tree.body if isinstance(node, ast.ClassDef)}
            imports = {alias.name for node in tree.body if isinstance(node, ast.ImportFrom) for alias in node.names}
            self.assertEqual(imports - used, set(), name)
            functions = [node for node in ast.walk(tree) if isinstance(node, (ast.FunctionDef, ast.Lambda))]
            local = set().union(*[local_names(function) for function in functions]) if functions else set()
            self.assertEqual(local & (classes | imports), set(), name)
            own = local | set(top)
            self.assertEqual(own & set(dir(builtins)), set(), name)
            self.assertEqual(own & BARRED_NAMES, set(), name)
            self.assertFalse([one for one in own if one.startswith("__")])
            self.assertEqual({one for one in used - own if one in dir(builtins)} - BUILTINS, set(), name)

    def test_words(self):
        for path in FOLDER.glob("*.py"):
            text = re.sub(r'"""(.|\n)*?"""|#.*', "", path.read_text())
            self.assertNotRegex(text, BARRED_WORDS)

    def test_classes(self):
        methods, attributes = set(), set()
        for name, node in self.nodes(ast.ClassDef):
            self.assertEqual(node.decorator_list, [])
            found = [part.name for part in node.body if isinstance(part, ast.FunctionDef)]
            self.assertEqual(len(found), len(set(found)))
            methods |= set(found)
            attributes |= {
                part.attr for part in ast.walk(node)
                if isinstance(part, ast.Attribute) and isinstance(part.ctx, ast.Store)}
        self.assertEqual({one for one in methods if one.startswith("__")} - DOUBLE, set())
        self.assertEqual({one for one in methods - DOUBLE if one in BUILTIN_ATTRIBUTES}, set())
        self.assertEqual(attributes & BUILTIN_ATTRIBUTES - {"count"}, set())
        self.assertEqual(methods & attributes, set())
        for name, node in self.nodes(ast.Call):
            if isinstance(node.func, ast.Attribute):
                self.assertIn(node.func.attr, METHODS | methods, (name, node.lineno))

    def test_sets(self):
        for name, node in self.nodes(ast.Call):
            for argument in node.args:
                if isinstance(argument, ast.Call) and isinstance(argument.func, ast.Name) and argument.func.id == "set":
                    self.assertIn(node.func.id, ("len", "sorted"))


if __name__ == "__main__":
    unittest.main()
