"""That the package keeps to the subset of Python that it is written in, as far as a tree of its code shows."""

import ast
import builtins
import pathlib
import re
import tokenize
import unittest

ROOT = pathlib.Path(__file__).resolve().parent.parent
PACKAGE = ROOT / "hodman"
FILES = sorted(PACKAGE.glob("*.py"))
BUILTINS = set(
    "len range enumerate zip min max sum abs sorted reversed int str bool list tuple dict set isinstance ord repr any"
    " all divmod iter next super property staticmethod classmethod Exception ValueError TypeError KeyError IndexError"
    " LookupError ZeroDivisionError ArithmeticError OverflowError RuntimeError NotImplementedError NotImplemented".split()
)
METHODS = set(
    "append clear copy count endswith extend find get index insert isalnum isalpha isdigit islower isspace isupper"
    " items join keys ljust lower lstrip partition pop remove replace reverse rfind rjust rpartition rsplit rstrip"
    " setdefault split splitlines startswith strip update upper values zfill bit_length removeprefix removesuffix"
    " isascii isdecimal add discard".split()
)
DUNDERS = set("__init__ __eq__ __repr__ __str__ __len__ __enter__ __exit__ __call__ __iter__".split())
BARRED_NAMES = set(
    "register mro elements open input version_info with_traceback add_note attrgetter breakpoint builtins compile"
    " copyright credits delattr dir eval exec exit gc getattr globals hasattr help id importlib license locals"
    " methodcaller os quit setattr type vars sys".split()
)
BARRED_WORDS = re.compile(
    r"\b(type|typing|typing_extensions|enum|Enum|IntEnum|StrEnum|Flag|IntFlag|Generic|Protocol|ABC|ABCMeta"
    r"|namedtuple|NamedTuple|TypedDict|TYPE_CHECKING|abstractmethod)\b|dataclass|overload|contextmanager"
)
STATEMENTS = (
    ast.FunctionDef, ast.ClassDef, ast.Assign, ast.AugAssign, ast.If, ast.While, ast.For, ast.Return, ast.Break,
    ast.Continue, ast.Pass, ast.Raise, ast.Assert, ast.Delete, ast.Nonlocal, ast.Try, ast.With, ast.Expr,
    ast.ImportFrom,
)
BARRED_NODES = (
    ast.GeneratorExp, ast.Yield, ast.YieldFrom, ast.Await, ast.Div, ast.MatMult, ast.AnnAssign, ast.Global, ast.Import,
)


def trees():
    for path in FILES:
        yield path, ast.parse(path.read_text())


def nodes(kind):
    for path, tree in trees():
        for node in ast.walk(tree):
            if isinstance(node, kind):
                yield path, node


def bound_names(tree):
    """Each name that the code binds, with its row."""
    for node in ast.walk(tree):
        if isinstance(node, (ast.FunctionDef, ast.ClassDef)):
            yield node.name, node
        elif isinstance(node, ast.arg):
            yield node.arg, node
        elif isinstance(node, ast.Name) and not isinstance(node.ctx, ast.Load):
            yield node.id, node
        elif isinstance(node, ast.alias):
            yield node.asname or node.name, node
        elif isinstance(node, ast.ExceptHandler) and node.name:
            yield node.name, node


class Subset(unittest.TestCase):
    def wrong(self, path, node, rule):
        self.fail(f"{path.name}:{getattr(node, 'lineno', node)}: {rule}")

    def test_files(self):
        others = [path.name for path in PACKAGE.iterdir() if path.name != "__pycache__" and path not in FILES]
        self.assertEqual(others, [])
        for path in FILES:
            self.assertRegex(path.name, r"^(__init__|__main__|[a-z][a-z0-9_]*)\.py$")

    def test_sizes_and_characters(self):
        for path in FILES:
            rows = path.read_text().split("\n")
            self.assertLessEqual(len(rows), 400, path.name)
            for number, row in enumerate(rows, 1):
                if len(row) > 120 or not all(" " <= sign <= "~" for sign in row):
                    self.wrong(path, number, "L10, L14")
                if BARRED_WORDS.search(row):
                    self.wrong(path, number, "L17")
        for path, node in nodes(ast.FunctionDef):
            if node.end_lineno - node.lineno + 1 > 40:
                self.wrong(path, node, "L10")

    def test_statements_and_expressions(self):
        for path, node in nodes((ast.stmt, ast.expr, ast.operator)):
            if isinstance(node, ast.stmt) and not isinstance(node, STATEMENTS) or isinstance(node, BARRED_NODES):
                self.wrong(path, node, "L6, L7, L21")
            if isinstance(node, ast.Constant) and isinstance(node.value, (float, complex)):
                self.wrong(path, node, "L7")
            if isinstance(node, ast.Constant) and isinstance(node.value, str) and "%" in node.value:
                self.wrong(path, node, "L27")
            if isinstance(node, ast.Expr) and not isinstance(node.value, (ast.Call, ast.Constant)):
                self.wrong(path, node, "L6")

    def test_escapes(self):
        for path in FILES:
            with open(path, "rb") as rows:
                for token in tokenize.tokenize(rows.readline):
                    if token.type == tokenize.STRING and re.search(r"\\[^nt\\'\"]", token.string):
                        self.wrong(path, token.start[0], "L27")

    def test_module_level(self):
        for path, tree in trees():
            seen = set()
            for at, node in enumerate(tree.body):
                if isinstance(node, ast.ImportFrom):
                    if any(not isinstance(ahead, (ast.ImportFrom, ast.Expr)) for ahead in tree.body[:at]):
                        self.wrong(path, node, "L2")
                    names = [alias.name for alias in node.names]
                elif isinstance(node, (ast.FunctionDef, ast.ClassDef)):
                    names = [node.name]
                elif isinstance(node, ast.Assign):
                    names = [target.id for target in node.targets]
                    self.assertEqual(len(names), 1, path.name)
                else:
                    self.assertTrue(at == 0 and isinstance(node, ast.Expr), path.name)
                    names = []
                for name in names:
                    if name in seen:
                        self.wrong(path, node, "L15")
                    seen.add(name)

    def test_imports(self):
        told = {path.stem: set() for path in FILES}
        own = {path.stem: {name for name, _ in bound_names(ast.Module(tree.body, []))} for path, tree in trees()}
        for path, node in nodes(ast.ImportFrom):
            head, _, stem = (node.module or "").partition(".")
            if node.level or head != "hodman" or stem not in told:
                self.wrong(path, node, "L2")
            for alias in node.names:
                tree = ast.parse((PACKAGE / f"{stem}.py").read_text())
                here = {name for name, bound in bound_names(tree) if not isinstance(bound, ast.alias)}
                if alias.name not in here & own[stem]:
                    self.wrong(path, node, "L16")
            told[path.stem].add(stem)
        while told:
            free = [stem for stem in told if not told[stem] & set(told)]
            self.assertTrue(free, f"L16: {told}")
            for stem in free:
                del told[stem]

    def test_names(self):
        for path, tree in trees():
            top = {node.name for node in tree.body if isinstance(node, ast.ClassDef)}
            top |= {alias.name for node in tree.body if isinstance(node, ast.ImportFrom) for alias in node.names}
            methods = [part for node in tree.body if isinstance(node, ast.ClassDef) for part in node.body]
            for name, node in bound_names(tree):
                if name in DUNDERS and node in methods:
                    continue
                if name.startswith("_") or name in BARRED_NAMES:
                    self.wrong(path, node, "L12, L17")
                if hasattr(builtins, name) and node not in methods:
                    self.wrong(path, node, "L15")
                if name in top and isinstance(node, (ast.arg, ast.Name)):
                    self.wrong(path, node, "L15")

    def test_builtins(self):
        for path, tree in trees():
            own = {name for name, _ in bound_names(tree)}
            for node in ast.walk(tree):
                if isinstance(node, ast.Name) and node.id not in own | BUILTINS:
                    self.wrong(path, node, "L8")

    def test_parameters_and_decorators(self):
        for path, node in nodes((ast.FunctionDef, ast.ClassDef)):
            if node.decorator_list and isinstance(node, ast.ClassDef):
                self.wrong(path, node, "L5")
            if isinstance(node, ast.FunctionDef) and node.args.posonlyargs:
                self.wrong(path, node, "L4")

    def test_classes(self):
        methods, attributes = set(), set()
        for path, node in nodes(ast.ClassDef):
            for part in node.body:
                if isinstance(part, ast.FunctionDef):
                    methods.add(part.name)
                elif not (isinstance(part, ast.Expr) and isinstance(part.value, ast.Constant)):
                    self.wrong(path, part, "L5")
        for path, node in nodes(ast.Attribute):
            if isinstance(node.ctx, ast.Store):
                attributes.add(node.attr)
        self.assertEqual(methods & attributes, set(), "L18")
        for path, node in nodes(ast.Attribute):
            if node.attr not in methods | attributes | METHODS:
                self.wrong(path, node, "L18, L25")

    def test_with_own_equality(self):
        """What a class with __eq__ and __len__ bars all through the package."""
        for path, node in nodes(ast.Attribute):
            if node.attr == "sort":
                self.wrong(path, node, "L25")
        own = {node.name for _, node in nodes(ast.ClassDef)}
        for path, node in nodes(ast.ExceptHandler):
            caught = node.type.elts if isinstance(node.type, ast.Tuple) else [node.type]
            if not {name.id for name in caught} <= own:
                self.wrong(path, node, "L19")
        for path, node in nodes(ast.FunctionDef):
            if node.name in ("__eq__", "__len__", "__repr__"):
                rows = [row for row in node.body if not isinstance(row, ast.Expr)]
                self.assertEqual([type(row) for row in rows], [ast.Return], "L28")

    def test_handlers_and_finally(self):
        for path, node in nodes(ast.FunctionDef):
            names = [part.name for part in ast.walk(node) if isinstance(part, ast.ExceptHandler) and part.name]
            bound = [part.id for part in ast.walk(node) if isinstance(part, ast.Name) and isinstance(part.ctx, ast.Store)]
            bound += [part.arg for part in ast.walk(node) if isinstance(part, ast.arg)]
            if len(names) != len(set(names)) or set(names) & set(bound):
                self.wrong(path, node, "L19")
        for path, node in nodes(ast.Try):
            for row in node.finalbody:
                if not isinstance(row, ast.Assign) or not isinstance(row.value, (ast.Constant, ast.Name, ast.Attribute)):
                    self.wrong(path, row, "L6")

    def test_stars(self):
        for path, node in nodes(ast.Set):
            if any(isinstance(part, ast.Starred) for part in node.elts):
                self.wrong(path, node, "L7")
        for path, node in nodes(ast.Call):
            for part in node.args:
                if isinstance(part, ast.Starred) and not isinstance(part.value, ast.Name):
                    self.wrong(path, node, "L7")

    def test_iterated_at_once(self):
        at_once = set("list tuple dict sorted sum any all enumerate zip min max len reversed".split())
        for path, tree in trees():
            good = set()
            for node in ast.walk(tree):
                if isinstance(node, (ast.For, ast.comprehension)):
                    good.add(node.iter)
                elif isinstance(node, ast.Call) and isinstance(node.func, ast.Name) and node.func.id in at_once:
                    good.update(node.args)
                elif isinstance(node, ast.Call) and isinstance(node.func, ast.Attribute) and node.func.attr == "join":
                    good.update(node.args)
            for node in ast.walk(tree):
                if isinstance(node, ast.Call) and node not in good and self.lazy(node.func):
                    self.wrong(path, node, "L23")

    def lazy(self, call):
        if isinstance(call, ast.Name):
            return call.id in ("range", "zip", "enumerate", "reversed")
        return isinstance(call, ast.Attribute) and call.attr in ("items", "keys", "values")

    def test_sets(self):
        methods = {part.name for _, node in nodes(ast.ClassDef) for part in node.body if isinstance(part, ast.FunctionDef)}
        self.assertEqual(methods & {"add", "discard"}, set(), "L24")
        for path, node in nodes(ast.FunctionDef):
            stored = [part.targets[0].id for part in ast.walk(node) if isinstance(part, ast.Assign) and self.is_set(part.value)]
            self.assertEqual(len(stored), len(set(stored)), "L24")
            for part in ast.walk(node):
                if isinstance(part, (ast.For, ast.comprehension)):
                    if self.is_set(part.iter) or isinstance(part.iter, ast.Name) and part.iter.id in stored:
                        self.wrong(path, node, "L24")
                if isinstance(part, ast.Return) and isinstance(part.value, ast.Name) and part.value.id in stored:
                    self.wrong(path, part, "L24")

    def is_set(self, thing):
        if isinstance(thing, (ast.Set, ast.SetComp)):
            return True
        return isinstance(thing, ast.Call) and isinstance(thing.func, ast.Name) and thing.func.id == "set"

    def test_comparisons_and_handlers(self):
        for path, node in nodes(ast.Compare):
            for sign, side in zip(node.ops, node.comparators):
                plain = isinstance(side, ast.Constant) and side.value in (None, True, False)
                if isinstance(sign, (ast.Is, ast.IsNot)) and not plain:
                    self.wrong(path, node, "L20")
        for path, node in nodes(ast.ExceptHandler):
            if node.type is None:
                self.wrong(path, node, "L6")
        for path, node in nodes(ast.Raise):
            if node.exc is not None and not (isinstance(node.exc, ast.Call) and isinstance(node.exc.func, ast.Name)):
                self.wrong(path, node, "L19")


if __name__ == "__main__":
    unittest.main()
