"""The rules of LANGUAGE.md that can be seen in the code of the package, as far as a short test can."""

import ast
import builtins
import pathlib
import re
import unittest

FOLDER = pathlib.Path(__file__).resolve().parent.parent / "certsums"
FILES = sorted(FOLDER.glob("*.py"))
LIBRARY = {
    "heapq": ["heappush", "heappop", "heapify", "heapreplace", "heappushpop"],
    "math": ["gcd", "lcm", "isqrt", "comb", "perm", "factorial"],
    "itertools": ["product", "combinations", "permutations", "chain", "accumulate", "pairwise", "islice",
                  "zip_longest"],
    "collections": ["defaultdict"],
}
BUILTINS = """len range enumerate zip min max sum abs sorted reversed int str bool list tuple dict set frozenset
isinstance ord repr any all divmod pow getattr hasattr setattr iter next map super property staticmethod classmethod
Exception ValueError TypeError KeyError IndexError LookupError ZeroDivisionError ArithmeticError OverflowError
RuntimeError NotImplementedError AttributeError StopIteration NotImplemented object""".split()
METHODS = """__init__ __eq__ __repr__ __str__ __len__ __enter__ __exit__ __call__ __iter__ __lt__ __le__ __gt__ __ge__
__ne__ __add__ __sub__ __mul__ __floordiv__ __mod__ __pow__ __and__ __or__ __xor__ __lshift__ __rshift__ __neg__
__pos__ __invert__ __abs__ __bool__ __contains__ __getitem__ __setitem__""".split()
STATEMENTS = (ast.Assign, ast.AnnAssign, ast.AugAssign, ast.If, ast.While, ast.For, ast.Return, ast.Break, ast.Continue,
              ast.Pass, ast.Raise, ast.Assert, ast.Delete, ast.Nonlocal, ast.Match, ast.With, ast.Try, ast.Expr,
              ast.FunctionDef)
BARRED = """register mro elements open input law version_info with_traceback add_note attrgetter breakpoint builtins
compile copyright credits delattr dir eval exec exit gc globals help id importlib license locals methodcaller os quit
type vars sys""".split()
WORDS = """typing typing_extensions enum Enum IntEnum StrEnum Flag IntFlag Generic Protocol ABC ABCMeta namedtuple
NamedTuple TypedDict TYPE_CHECKING abstractmethod _wall _WallAttr""".split()


def parsed():
    return [(path, ast.parse(path.read_text(encoding="utf-8"))) for path in FILES]


def functions(tree):
    return [node for node in ast.walk(tree) if isinstance(node, ast.FunctionDef)]


def bound_names(tree):
    for node in ast.walk(tree):
        if isinstance(node, ast.Name) and isinstance(node.ctx, (ast.Store, ast.Del)):
            yield node.id, node
        elif isinstance(node, ast.arg):
            yield node.arg, node
        elif isinstance(node, (ast.FunctionDef, ast.ClassDef)):
            yield node.name, node
        elif isinstance(node, ast.alias):
            yield node.name, node


class FilesTest(unittest.TestCase):
    def test_folder(self):
        for path in FOLDER.iterdir():
            if path.name != "__pycache__":
                self.assertRegex(path.name, r"^[a-z0-9_]+\.py$", "L1, L14")
        self.assertLessEqual(len(FILES), 100, "L14")

    def test_text(self):
        for path in FILES:
            lines = path.read_text(encoding="utf-8").split("\n")
            self.assertLessEqual(len(lines), 399, f"L10 {path.name}")
            for number, line in enumerate(lines, 1):
                self.assertLessEqual(len(line), 120, f"L10 {path.name}:{number}")
                self.assertRegex(line, r"^[ -~]*$", f"L14 {path.name}:{number}")
                for word in WORDS:
                    self.assertNotRegex(line, rf"(?<!\w){word}(?!\w)", f"L12, L17 {path.name}:{number}")


class ImportsTest(unittest.TestCase):
    def test_imports(self):
        for path, tree in parsed():
            seen = False
            for node in tree.body:
                where = f"L2, L16 {path.name}:{node.lineno}"
                if not isinstance(node, ast.ImportFrom):
                    seen = seen or not (isinstance(node, ast.Expr) and node is tree.body[0])
                    continue
                self.assertFalse(seen, where)
                self.assertEqual(node.level, 0, where)
                for alias in node.names:
                    self.assertIsNone(alias.asname, where)
                    if node.module in LIBRARY:
                        self.assertIn(alias.name, LIBRARY[node.module], where)
                    else:
                        self.assertIn(alias.name, self.defined(node.module), where)
            for node in ast.walk(tree):
                self.assertNotIsInstance(node, ast.Import, path.name)

    def defined(self, module):
        package, name = module.split(".")
        self.assertEqual(package, "certsums")
        tree = ast.parse((FOLDER / f"{name}.py").read_text(encoding="utf-8"))
        names = [node.name for node in tree.body if isinstance(node, (ast.FunctionDef, ast.ClassDef))]
        return names + [target.id for node in tree.body if isinstance(node, ast.Assign) for target in node.targets]

    def test_no_circles(self):
        needs = {}
        for path, tree in parsed():
            modules = [node.module for node in tree.body if isinstance(node, ast.ImportFrom)]
            needs[f"certsums.{path.stem}"] = [module for module in modules if module.startswith("certsums.")]
        while needs:
            free = [name for name, others in needs.items() if not [other for other in others if other in needs]]
            self.assertTrue(free, f"L16: a circle among {sorted(needs)}")
            needs = {name: others for name, others in needs.items() if name not in free}

    def test_library_names_are_only_called(self):
        for path, tree in parsed():
            taken = [alias.name for node in tree.body if isinstance(node, ast.ImportFrom) and node.module in LIBRARY
                     for alias in node.names]
            called = [id(node.func) for function in functions(tree) for node in ast.walk(function)
                      if isinstance(node, ast.Call)]
            for node in ast.walk(tree):
                if isinstance(node, ast.Name) and node.id in taken:
                    self.assertIn(id(node), called, f"L2 {path.name}:{node.lineno}")
            for name, node in bound_names(tree):
                if not isinstance(node, ast.alias):
                    self.assertNotIn(name, taken, f"L2 {path.name}:{node.lineno}")


class FormsTest(unittest.TestCase):
    def test_module_level(self):
        for path, tree in parsed():
            for node in tree.body:
                plain = (ast.ImportFrom, ast.FunctionDef, ast.ClassDef, ast.Assign)
                docstring = isinstance(node, ast.Expr) and node is tree.body[0]
                self.assertTrue(docstring or isinstance(node, plain), f"L3 {path.name}:{node.lineno}")
            names = [name for name, node in bound_names(ast.Module([
                node for node in tree.body if isinstance(node, (ast.ImportFrom, ast.Assign))], []))]
            names += [node.name for node in tree.body if isinstance(node, (ast.FunctionDef, ast.ClassDef))]
            self.assertEqual(len(names), len(set(names)), f"L15 {path.name}")

    def test_functions(self):
        for path, tree in parsed():
            for function in functions(tree):
                where = f"{path.name}:{function.lineno}"
                self.assertLessEqual(function.end_lineno - function.lineno + 1, 40, f"L10 {where}")
                for node in function.decorator_list:
                    known = isinstance(node, ast.Name) and node.id in ("property", "staticmethod", "classmethod")
                    self.assertTrue(known or isinstance(node, ast.Attribute) and node.attr == "setter", f"L4 {where}")
                for node in ast.walk(function):
                    if isinstance(node, ast.stmt):
                        self.assertIsInstance(node, STATEMENTS, f"L6 {path.name}:{node.lineno}")

    def test_classes(self):
        for path, tree in parsed():
            for node in ast.walk(tree):
                if isinstance(node, ast.ClassDef):
                    self.assertEqual(node.decorator_list, [], f"L5 {path.name}:{node.lineno}")
                    names = [member.name for member in node.body if isinstance(member, ast.FunctionDef)]
                    self.assertEqual(len(names), len(set(names)), f"L18 {path.name}:{node.lineno}")
                    for name in names:
                        if name.startswith("__"):
                            self.assertIn(name, METHODS, f"L5 {path.name}:{node.lineno}")

    def test_names(self):
        standard = dir(builtins)
        for path, tree in parsed():
            methods = [id(member) for node in ast.walk(tree) if isinstance(node, ast.ClassDef) for member in node.body]
            for name, node in bound_names(tree):
                where = f"{path.name}: {name}"
                self.assertNotIn(name, BARRED, f"L17 {where}")
                if id(node) not in methods:
                    self.assertNotIn(name, standard, f"L15 {where}")
                    self.assertTrue(re.match(r"^(_?[A-Za-z][A-Za-z0-9_]*|_)$", name), f"L12 {where}")
            for node in ast.walk(tree):
                if isinstance(node, ast.Name) and isinstance(node.ctx, ast.Load) and node.id in standard:
                    self.assertIn(node.id, BUILTINS, f"L8 {path.name}:{node.lineno}")

    def test_local_names(self):
        for path, tree in parsed():
            taken = [alias.name for node in tree.body if isinstance(node, ast.ImportFrom) for alias in node.names]
            taken += [node.name for node in tree.body if isinstance(node, ast.ClassDef)]
            for function in functions(tree):
                for name, node in bound_names(ast.Module(function.body + [function.args], [])):
                    self.assertNotIn(name, taken, f"L15 {path.name}:{node.lineno}")

    def test_lists_made_by_the_sign_are_not_changed(self):
        for path, tree in parsed():
            for function in functions(tree):
                made = {target.id for node in ast.walk(function) if isinstance(node, ast.Assign)
                        for target in node.targets if isinstance(target, ast.Name) and self.repeats_a_list(node.value)}
                for node in ast.walk(function):
                    held = None
                    if isinstance(node, ast.Subscript) and isinstance(node.ctx, (ast.Store, ast.Del)):
                        held = node.value
                    elif isinstance(node, ast.Call) and isinstance(node.func, ast.Attribute):
                        held = node.func.value
                    if isinstance(held, ast.Name):
                        self.assertNotIn(held.id, made, f"L5, L28 {path.name}:{node.lineno}")

    def repeats_a_list(self, value):
        products = [node for node in ast.walk(value) if isinstance(node, ast.BinOp) and isinstance(node.op, ast.Mult)]
        return any(isinstance(side, (ast.List, ast.ListComp)) for node in products for side in (node.left, node.right))

    def test_iterated_at_once(self):
        views = ("zip", "enumerate", "reversed", "range")
        for path, tree in parsed():
            for node in ast.walk(tree):
                if isinstance(node, ast.Call):
                    for later in node.args[1:]:
                        view = isinstance(later, ast.Call) and isinstance(later.func, ast.Name) and later.func.id in views
                        self.assertFalse(view, f"L23 {path.name}:{node.lineno}")
                if isinstance(node, (ast.Assign, ast.Return)) and isinstance(node.value, ast.Call):
                    view = isinstance(node.value.func, ast.Name) and node.value.func.id in views
                    self.assertFalse(view, f"L23 {path.name}:{node.lineno}")

    def test_expressions(self):
        whole = ("sum", "min", "max", "any", "all", "sorted")
        for path, tree in parsed():
            for node in ast.walk(tree):
                where = f"{path.name}:{getattr(node, 'lineno', 0)}"
                self.assertNotIsInstance(node, (ast.Div, ast.MatMult, ast.Await, ast.Global), where)
                if isinstance(node, ast.Constant):
                    self.assertNotIsInstance(node.value, (float, complex), f"L7 {where}")
                    if isinstance(node.value, str):
                        self.assertNotIn("%", node.value, f"L27 {where}")
                if isinstance(node, ast.BinOp) and isinstance(node.op, ast.Pow):
                    self.assertIsInstance(node.right, ast.Constant, f"L27 {where}")
                if isinstance(node, ast.AugAssign):
                    self.assertIsInstance(node.value, ast.Constant, f"L5 {where}")
                if isinstance(node, ast.Call) and isinstance(node.func, ast.Name) and node.func.id in whole:
                    self.assertFalse([part for part in node.args if isinstance(part, ast.GeneratorExp)], f"L7 {where}")
                if isinstance(node, ast.Attribute):
                    self.assertNotEqual(node.attr, "sort", f"L25 {where}")
                if isinstance(node, ast.Compare) and [op for op in node.ops if isinstance(op, (ast.Is, ast.IsNot))]:
                    self.assertIsInstance(node.comparators[0], ast.Constant, f"L20 {where}")


if __name__ == "__main__":
    unittest.main()
