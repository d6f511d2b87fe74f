"""The package keeps what can be told mechanically of the language it is written in."""

import ast
import builtins
import re
import unittest
from pathlib import Path

PACKAGE = Path(__file__).resolve().parent.parent / "planeworth"
FILES = sorted(path for path in PACKAGE.rglob("*") if path.is_file() and "__pycache__" not in path.parts)

BUILTINS = set("""len range enumerate zip min max sum abs sorted reversed int str bool list tuple dict set isinstance
    ord repr any all divmod Exception ValueError TypeError KeyError IndexError LookupError ZeroDivisionError
    ArithmeticError OverflowError RuntimeError NotImplementedError AttributeError NotImplemented
    iter next getattr hasattr setattr map pow super property staticmethod classmethod""".split())
LIBRARY = {"math": set("gcd lcm isqrt comb perm factorial".split()),
           "itertools": set("product combinations permutations chain accumulate pairwise islice zip_longest".split()),
           "heapq": set("heappush heappop heapify heapreplace heappushpop".split()),
           "collections": {"defaultdict", "deque"}}
METHODS = set("""append clear copy count endswith extend find get index insert isalnum isalpha isdigit islower isspace
    isupper items join keys ljust lower lstrip partition pop remove replace reverse rfind rjust rpartition rsplit
    rstrip setdefault split splitlines startswith strip update upper values zfill bit_length title capitalize swapcase
    casefold center expandtabs removeprefix removesuffix rindex isascii isdecimal isnumeric istitle isidentifier
    isprintable""".split())
DOUBLE = set("""__init__ __eq__ __repr__ __str__ __len__ __enter__ __exit__ __call__ __iter__ __lt__ __le__ __gt__
    __ge__ __ne__ __add__ __sub__ __mul__ __neg__ __bool__ __contains__ __getitem__""".split())
BARRED = set("""register mro elements open input law version_info with_traceback add_note attrgetter breakpoint
    builtins compile copyright credits delattr dir eval exec exit gc globals help id importlib license locals
    methodcaller os quit vars sys type typing enum Enum Generic Protocol ABC namedtuple overload dataclass""".split())
NODES = (ast.GeneratorExp, ast.Lambda, ast.AsyncFunctionDef, ast.Await, ast.Global, ast.Yield, ast.YieldFrom,
         ast.NamedExpr, ast.Div, ast.MatMult)


def parents_of(tree):
    return {child: node for node in ast.walk(tree) for child in ast.iter_child_nodes(node)}


def docstrings_of(tree):
    return {id(node.body[0].value) for node in ast.walk(tree)
            if isinstance(node, (ast.Module, ast.ClassDef, ast.FunctionDef)) and ast.get_docstring(node) is not None}


def bound_names(function):
    """The parameters and local variables of a function."""
    every = function.args.posonlyargs + function.args.args + function.args.kwonlyargs
    names = {argument.arg for argument in every}
    return names | {node.id for node in ast.walk(function)
                    if isinstance(node, ast.Name) and isinstance(node.ctx, (ast.Store, ast.Del))}


class TestLanguage(unittest.TestCase):

    def setUp(self):
        self.trees = {path: ast.parse(path.read_text(encoding="utf-8")) for path in FILES if path.suffix == ".py"}
        self.own_methods = {node.name for tree in self.trees.values() for part in ast.walk(tree)
                            if isinstance(part, ast.ClassDef) for node in part.body
                            if isinstance(node, ast.FunctionDef)}

    def each(self, kind):
        for path, tree in self.trees.items():
            for node in ast.walk(tree):
                if isinstance(node, kind):
                    yield path.name, node

    def test_files(self):
        self.assertGreater(len(FILES), 4)
        for path in FILES:
            self.assertRegex(path.name, r"\A[a-z][a-z0-9_]*\.py\Z|\A__init__\.py\Z")
            lines = path.read_text(encoding="utf-8").split("\n")
            self.assertLessEqual(len(lines), 400, path.name)
            for line in lines:
                self.assertLessEqual(len(line), 120, path.name)
                self.assertRegex(line, r"\A[ -~]*\Z", path.name)
                self.assertNotRegex(line, r"_wall\b|_WallAttr", path.name)

    def test_functions_are_short(self):
        for name, node in self.each(ast.FunctionDef):
            self.assertLessEqual(node.end_lineno - node.lineno + 1, 40, (name, node.name))
            self.assertEqual(node.decorator_list, [], (name, node.name))

    def test_module_level(self):
        kinds = (ast.ImportFrom, ast.FunctionDef, ast.ClassDef, ast.Assign)
        for path, tree in self.trees.items():
            self.assertIsNotNone(ast.get_docstring(tree), path.name)
            names = []
            for node in tree.body[1:]:
                self.assertIsInstance(node, kinds, path.name)
                if isinstance(node, ast.ImportFrom):
                    names += [alias.name for alias in node.names]
                elif isinstance(node, ast.Assign):
                    self.assertEqual([type(target) for target in node.targets], [ast.Name])
                    self.assertFalse([part for part in ast.walk(node.value) if isinstance(part, ast.Call)])
                    names.append(node.targets[0].id)
                else:
                    names.append(node.name)
            self.assertEqual(len(names), len(set(names)), path.name)

    def test_imports(self):
        reached = {}
        for path, tree in self.trees.items():
            reached[path.stem] = set()
            for node in ast.walk(tree):
                self.assertNotIsInstance(node, ast.Import, path.name)
                if not isinstance(node, ast.ImportFrom):
                    continue
                self.assertIn(node, tree.body)
                self.assertEqual(node.level, 0)
                self.assertTrue(all(alias.asname is None for alias in node.names))
                names = {alias.name for alias in node.names}
                if node.module in LIBRARY:
                    self.assertLessEqual(names, LIBRARY[node.module])
                    continue
                self.assertTrue(node.module.startswith("planeworth."), (path.name, node.module))
                other = node.module.split(".")[1]
                reached[path.stem].add(other)
                defined = set()
                for part in self.trees[PACKAGE / f"{other}.py"].body:
                    if isinstance(part, (ast.FunctionDef, ast.ClassDef)):
                        defined.add(part.name)
                    elif isinstance(part, ast.Assign):
                        defined.add(part.targets[0].id)
                self.assertLessEqual(names, defined, path.name)
        for _ in reached:
            for name in reached:
                reached[name] = reached[name].union(*[reached[other] for other in reached[name]])
        for name in reached:
            self.assertNotIn(name, reached[name], "files import from each other")

    def test_imports_are_used(self):
        for path, tree in self.trees.items():
            used = {node.id for node in ast.walk(tree) if isinstance(node, ast.Name)}
            for node in tree.body:
                if isinstance(node, ast.ImportFrom):
                    self.assertLessEqual({alias.name for alias in node.names}, used, path.name)

    def test_names(self):
        for path, tree in self.trees.items():
            taken = set(dir(builtins)) | BARRED
            for node in tree.body:
                if isinstance(node, ast.ImportFrom):
                    taken |= {alias.name for alias in node.names}
                elif isinstance(node, (ast.ClassDef, ast.FunctionDef)):
                    taken.add(node.name)
                    self.assertFalse(hasattr(builtins, node.name), node.name)
            for node in ast.walk(tree):
                if isinstance(node, ast.FunctionDef):
                    self.assertEqual(bound_names(node) & taken, set(), (path.name, node.name))
                    self.assertFalse(node.name.startswith("__") and node.name not in DOUBLE, node.name)
                    self.assertNotIn(node.name, BARRED)

    def test_builtins_and_methods(self):
        for path, tree in self.trees.items():
            known = {name for node in ast.walk(tree) if isinstance(node, ast.FunctionDef) for name in bound_names(node)}
            for node in tree.body:
                if isinstance(node, ast.ImportFrom):
                    known |= {alias.name for alias in node.names}
                elif isinstance(node, ast.Assign):
                    known.add(node.targets[0].id)
                elif isinstance(node, (ast.ClassDef, ast.FunctionDef)):
                    known.add(node.name)
            for node in ast.walk(tree):
                if isinstance(node, ast.Name) and node.id not in known:
                    self.assertIn(node.id, BUILTINS, path.name)
                if isinstance(node, ast.Call) and isinstance(node.func, ast.Attribute):
                    self.assertIn(node.func.attr, METHODS | self.own_methods | {"__init__"}, path.name)
                if isinstance(node, ast.Attribute):
                    self.assertNotIn(node.attr, BARRED)

    def test_statements_and_expressions(self):
        for path, tree in self.trees.items():
            parents = parents_of(tree)
            told = docstrings_of(tree)
            for node in ast.walk(tree):
                where = (path.name, getattr(node, "lineno", 0))
                self.assertNotIsInstance(node, NODES, where)
                if isinstance(node, ast.Constant):
                    self.assertNotIsInstance(node.value, (float, complex, bytes), where)
                    if isinstance(node.value, str) and id(node) not in told:
                        self.assertNotIn("%", node.value, where)
                        self.assertFalse(set(re.findall(r"\w+", node.value)) & BARRED, where)
                if isinstance(node, ast.BinOp) and isinstance(node.op, ast.Pow):
                    self.assertIsInstance(node.right, ast.Constant, where)
                    self.assertLessEqual(node.right.value, 64, where)
                if isinstance(node, ast.Compare) and isinstance(node.ops[0], (ast.Is, ast.IsNot)):
                    self.assertIsInstance(node.comparators[0], ast.Constant, where)
                if isinstance(node, ast.Raise) and node.exc is not None:
                    self.assertIsInstance(node.exc, ast.Call, where)
                if isinstance(node, ast.ExceptHandler):
                    self.assertIsInstance(node.type, ast.Name, where)
                if isinstance(node, (ast.Set, ast.SetComp)):
                    self.assertIsInstance(parents[node], (ast.Compare, ast.Call, ast.Assign), where)

    def test_no_warnings(self):
        for path in self.trees:
            with self.subTest(path.name):
                compile(path.read_text(encoding="utf-8"), str(path), "exec")


if __name__ == "__main__":
    unittest.main()
