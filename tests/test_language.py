"""The files of the package keep to the subset of Python that the project is written in.

What can be seen from the syntax tree alone is looked at; the rules' numbers
stand in the messages.
"""

import ast
import builtins
import keyword
import re
import unittest
from pathlib import Path

PACKAGE = Path(__file__).resolve().parent.parent / "marksinturn"
FILES = sorted(PACKAGE.rglob("*.py"))
CALLED = set(
    "len range enumerate zip min max sum abs sorted reversed int str bool list tuple dict set isinstance ord repr any all divmod".split()
)
ERRORS = {"ValueError", "KeyError", "IndexError", "TypeError"}
LIBRARY = {
    "math": {"gcd", "lcm", "isqrt", "comb", "perm", "factorial"},
    "itertools": {"product", "combinations", "permutations"},
    "heapq": {"heappush", "heappop", "heapify", "heapreplace", "heappushpop"},
}
TAKEN = {name for names in LIBRARY.values() for name in names}
METHODS = set(
    "append clear copy count endswith extend find get index insert isalnum isalpha isdigit islower isspace isupper items join keys"
    " ljust lower lstrip partition pop remove replace reverse rfind rjust rpartition rsplit rstrip setdefault split splitlines"
    " startswith strip update upper values zfill bit_length".split()
)
NOT_ATTRIBUTES = set(
    "items keys values pop update append clear extend insert remove reverse setdefault sort args encode decode hex fromhex format".split()
)
BARRED = set(
    "register mro elements open input law version_info with_traceback add_note attrgetter breakpoint builtins compile copyright"
    " credits delattr dir eval exec exit gc getattr globals hasattr help id importlib license locals methodcaller os quit setattr"
    " super type vars sys".split()
)
BARRED_WORDS = (
    "type typing typing_extensions enum Enum IntEnum StrEnum Flag IntFlag Generic Protocol ABC ABCMeta namedtuple NamedTuple"
    " TypedDict TYPE_CHECKING abstractmethod".split()
)
DOUBLE = {"__init__", "__eq__", "__repr__", "__str__", "__len__"}
STATEMENTS = (
    ast.Assign, ast.AugAssign, ast.If, ast.While, ast.For, ast.Return, ast.Break, ast.Continue, ast.Pass, ast.Raise, ast.Assert,
    ast.Delete, ast.Expr, ast.FunctionDef, ast.ClassDef, ast.ImportFrom,
)
EXPRESSIONS = (
    ast.BoolOp, ast.BinOp, ast.UnaryOp, ast.Lambda, ast.IfExp, ast.Dict, ast.Set, ast.ListComp, ast.SetComp, ast.DictComp, ast.Compare,
    ast.Call, ast.JoinedStr, ast.FormattedValue, ast.Constant, ast.Attribute, ast.Subscript, ast.Starred, ast.Name, ast.List,
    ast.Tuple, ast.Slice,
)


def trees():
    for path in FILES:
        text = path.read_text(encoding="utf-8")
        yield path.name, text, ast.parse(text)


def targets(node):
    """The names that a tree assigns."""
    return [one.id for one in ast.walk(node) if isinstance(one, ast.Name) and isinstance(one.ctx, (ast.Store, ast.Del))]


def functions(tree):
    return [node for node in ast.walk(tree) if isinstance(node, ast.FunctionDef)]


class LanguageTest(unittest.TestCase):
    def test_files(self):
        self.assertLessEqual(len(FILES), 100, "L14")
        for path in PACKAGE.rglob("*"):
            if "__pycache__" not in path.parts:
                self.assertRegex(path.name, r"\A[a-z_]+\.py\Z", "L1")
        self.assertTrue((PACKAGE / "__init__.py").exists())
        for name, text, tree in trees():
            self.assertLessEqual(len(text.splitlines()), 399, f"L10 {name}")
            self.assertTrue(all(sign == "\n" or " " <= sign <= "~" for sign in text), f"L14 {name}")
            for line in text.splitlines():
                self.assertLessEqual(len(line), 120, f"L10 {name}")
            for node in functions(tree):
                self.assertLessEqual(node.end_lineno - node.lineno + 1, 40, f"L10 {name} {node.name}")

    def test_statements_and_expressions(self):
        for name, text, tree in trees():
            for node in ast.walk(tree):
                where = f"{name}:{getattr(node, 'lineno', 0)}"
                if isinstance(node, ast.stmt):
                    self.assertIsInstance(node, STATEMENTS, f"L6 {where}")
                if isinstance(node, ast.expr):
                    self.assertIsInstance(node, EXPRESSIONS, f"L7 {where}")
                if isinstance(node, (ast.FunctionDef, ast.ClassDef)):
                    self.assertEqual(node.decorator_list, [], f"L4 {where}")
                self.assertNotIsInstance(node, (ast.Div, ast.Pow, ast.MatMult), f"L7 {where}")
                if isinstance(node, ast.Constant):
                    self.assertIsInstance(node.value, (int, str, bool, type(None)), f"L7 {where}")
                    if isinstance(node.value, str):
                        self.assertNotIn("%", node.value, f"L27 {where}")
                        self.assertNotIn("__", node.value, f"L27 {where}")
                if isinstance(node, ast.Compare):
                    for sign, side in zip(node.ops, node.comparators):
                        if isinstance(sign, (ast.Is, ast.IsNot)):
                            self.assertIsInstance(side, ast.Constant, f"L20 {where}")
                if isinstance(node, (ast.ListComp, ast.SetComp, ast.DictComp)):
                    self.assertLessEqual(len(node.generators), 6, f"L7 {where}")

    def test_module_level(self):
        for name, text, tree in trees():
            bound = []
            for at, node in enumerate(tree.body):
                where = f"{name}:{node.lineno}"
                if isinstance(node, ast.Expr):
                    self.assertEqual(at, 0, f"L3 {where}")
                    self.assertIsInstance(node.value, ast.Constant)
                elif isinstance(node, ast.ImportFrom):
                    bound.extend(alias.name for alias in node.names)
                elif isinstance(node, ast.Assign):
                    bound.extend(targets(node))
                    self.assertEqual(len(targets(node)), 1, f"L3 {where}")
                    inner = [x for x in ast.walk(node.value) if x is not node.value]
                    self.assertFalse([x for x in inner if isinstance(x, (ast.Call, ast.List, ast.Dict))], f"L15 {where}")
                else:
                    self.assertIsInstance(node, (ast.FunctionDef, ast.ClassDef), f"L3 {where}")
                    self.assertTrue(ast.get_docstring(node), where)
                    bound.append(node.name)
            self.assertEqual(len(bound), len(set(bound)), f"L15 {name}")

    def test_imports(self):
        edges = {}
        defined = {}
        for name, text, tree in trees():
            top = [node for node in tree.body if isinstance(node, (ast.FunctionDef, ast.ClassDef, ast.Assign))]
            defined[name[:-3]] = {x for node in top for x in ([node.name] if hasattr(node, "name") else targets(node))}
        for name, text, tree in trees():
            edges[name[:-3]] = []
            used = {x.id for x in ast.walk(tree) if isinstance(x, ast.Name)}
            for node in ast.walk(tree):
                self.assertNotIsInstance(node, ast.Import, f"L16 {name}")
                if not isinstance(node, ast.ImportFrom):
                    continue
                self.assertEqual(node.level, 0)
                self.assertIn(node, tree.body, f"L2 {name}")
                for alias in node.names:
                    self.assertIsNone(alias.asname)
                    self.assertIn(alias.name, used, f"{name} imports what it does not use")
                    if node.module in LIBRARY:
                        self.assertIn(alias.name, LIBRARY[node.module], f"L2 {name}")
                    else:
                        package, module = node.module.split(".")
                        self.assertEqual(package, "marksinturn")
                        self.assertIn(alias.name, defined[module], f"L16 {name}")
                        edges[name[:-3]].append(module)
        done = set()
        while len(done) < len(edges):
            free = [name for name in edges if name not in done and all(other in done for other in edges[name])]
            self.assertTrue(free, f"L16 in a ring: {sorted(set(edges) - done)}")
            done.update(free)

    def test_names(self):
        for name, text, tree in trees():
            imported = {alias.name for node in tree.body if isinstance(node, ast.ImportFrom) for alias in node.names}
            classes = {node.name for node in tree.body if isinstance(node, ast.ClassDef)}
            for node in functions(tree):
                plain = [x.arg for x in node.args.args] + targets(node)
                plain += [x.arg for one in ast.walk(node) if isinstance(one, ast.Lambda) for x in one.args.args]
                for word in plain:
                    where = f"{name} {node.name} {word}"
                    self.assertNotIn(word, imported | classes, f"L15 {where}")
                    self.assertFalse(hasattr(builtins, word), f"L15 {where}")
                    self.assertNotIn(word, BARRED, f"L17 {where}")
                    self.assertRegex(word, r"\A(_|_?[A-Za-z][A-Za-z0-9_]*)\Z", f"L12 {where}")
                self.assertFalse(node.args.vararg or node.args.kwarg)
                if not node.name.startswith("__") and node.name not in METHODS:
                    self.assertFalse(hasattr(builtins, node.name), f"L15 {name} {node.name}")
                reads = [x for x in ast.walk(node) if isinstance(x, ast.Name) and x.id == "_" and isinstance(x.ctx, ast.Load)]
                self.assertFalse(reads, f"L12 {name} {node.name}")
            code = re.sub(r'"""[\s\S]*?"""|#.*', "", text)
            for word in BARRED_WORDS:
                self.assertNotRegex(code, rf"\b{word}\b", f"L17 {name}")
            for word in ("dataclass", "overload", "contextmanager", "_wall", "_WallAttr"):
                self.assertNotIn(word, text, f"L12, L17 {name}")

    def test_calls(self):
        own = set()
        for name, text, tree in trees():
            own |= {node.name for node in ast.walk(tree) if isinstance(node, (ast.FunctionDef, ast.ClassDef))}
        for name, text, tree in trees():
            for node in ast.walk(tree):
                where = f"{name}:{getattr(node, 'lineno', 0)}"
                if isinstance(node, ast.Name) and hasattr(builtins, node.id):
                    self.assertIn(node.id, CALLED | ERRORS, f"L8 {where}")
                if not isinstance(node, ast.Call):
                    continue
                words = {word.arg for word in node.keywords}
                if isinstance(node.func, ast.Name) and node.func.id in CALLED:
                    allowed = {"sorted": {"key", "reverse"}, "min": {"key", "default"}, "max": {"key", "default"}}.get(node.func.id, set())
                    self.assertLessEqual(words, allowed, f"L22 {where}")
                elif isinstance(node.func, ast.Attribute):
                    self.assertTrue(node.func.attr in METHODS | own | {"add", "discard"}, f"L25 {where}")
                    if node.func.attr in METHODS | {"add", "discard"}:
                        self.assertFalse(words, f"L25 {where}")
                else:
                    self.assertIsInstance(node.func, ast.Name, f"L7 {where}")
                    self.assertTrue(node.func.id in own | TAKEN, f"L8 {where} {node.func.id}")

    def test_classes(self):
        assigned, read, methods = set(), set(), set()
        for name, text, tree in trees():
            for node in ast.walk(tree):
                if isinstance(node, ast.ClassDef):
                    names = [one.name for one in node.body if isinstance(one, ast.FunctionDef)]
                    methods |= set(names)
                    self.assertEqual(len(names), len(set(names)), f"L18 {name}")
                    self.assertLessEqual({one for one in names if one.startswith("__")}, DOUBLE, f"L5 {name}")
                    mine = {
                        x.attr for x in ast.walk(node)
                        if isinstance(x, ast.Attribute) and isinstance(x.ctx, ast.Store) and isinstance(x.value, ast.Name) and x.value.id == "self"
                    }
                    self.assertFalse(mine & set(names), f"L18 {name}")
                    self.assertFalse(mine & NOT_ATTRIBUTES, f"L26 {name}")
                    for method in node.body:
                        if isinstance(method, ast.FunctionDef) and method.name == "__init__":
                            self.assertFalse([x for x in ast.walk(method) if isinstance(x, ast.Return)], f"L28 {name}")
                if isinstance(node, ast.Attribute):
                    (assigned if isinstance(node.ctx, ast.Store) else read).add(node.attr)
        self.assertLessEqual(read, assigned | methods | METHODS | {"add", "discard"}, "L18")
        self.assertFalse(assigned & set(keyword.kwlist))

    def test_sets(self):
        """A set stands in a variable that is added to and asked alone, or directly in len, sorted, behind in."""
        for name, text, tree in trees():
            for node in functions(tree):
                kept = [
                    x.targets[0].id for x in ast.walk(node)
                    if isinstance(x, ast.Assign) and isinstance(x.targets[0], ast.Name)
                    and (isinstance(x.value, (ast.Set, ast.SetComp)) or (isinstance(x.value, ast.Call) and getattr(x.value.func, "id", "") == "set"))
                ]
                for word in kept:
                    self.assertEqual(targets(node).count(word), 1, f"L24 {name} {node.name}")
                    for one in ast.walk(node):
                        for child in ast.iter_child_nodes(one):
                            if not (isinstance(child, ast.Name) and child.id == word and isinstance(child.ctx, ast.Load)):
                                continue
                            fine = isinstance(one, ast.Compare) and isinstance(one.ops[0], (ast.In, ast.NotIn))
                            fine = fine or (isinstance(one, ast.Attribute) and one.attr in ("add", "discard"))
                            fine = fine or (isinstance(one, ast.Call) and getattr(one.func, "id", "") in ("len", "sorted"))
                            self.assertTrue(fine, f"L24 {name} {node.name} {word}")

    def test_loops_do_not_change_what_they_go_over(self):
        changing = {"append", "clear", "extend", "insert", "pop", "remove", "reverse", "setdefault", "update"}
        for name, text, tree in trees():
            for node in ast.walk(tree):
                if not isinstance(node, ast.For):
                    continue
                gone_over = {ast.unparse(x) for x in ast.walk(node.iter) if isinstance(x, (ast.Name, ast.Attribute))}
                for one in ast.walk(ast.Module(body=node.body, type_ignores=[])):
                    if isinstance(one, ast.Call) and isinstance(one.func, ast.Attribute) and one.func.attr in changing:
                        self.assertNotIn(ast.unparse(one.func.value), gone_over, f"L23 {name}:{one.lineno}")
                    if isinstance(one, ast.Subscript) and isinstance(one.ctx, (ast.Store, ast.Del)):
                        self.assertNotIn(ast.unparse(one.value), gone_over, f"L23 {name}:{one.lineno}")


if __name__ == "__main__":
    unittest.main()
