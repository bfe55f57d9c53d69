"""The rules of the language that can be looked up in the text of the package."""

import ast
import builtins
import io
import re
import tokenize
import unittest
from pathlib import Path

PACKAGE = Path(__file__).resolve().parent.parent / "ellwarden"
BUILTINS = set(
    "len range enumerate zip min max sum abs sorted reversed int str bool bytes list tuple dict set frozenset"
    " isinstance ord repr any all divmod pow getattr hasattr setattr iter next"
    " staticmethod classmethod property Exception ValueError TypeError KeyError IndexError LookupError ZeroDivisionError ArithmeticError"
    " OverflowError RuntimeError NotImplementedError AttributeError StopIteration NotImplemented".split()
)
METHODS = set(
    "append clear copy count endswith extend find get index insert isalnum isalpha isdigit islower isspace isupper"
    " items join keys ljust lower lstrip partition pop remove replace reverse rfind rjust rpartition rsplit rstrip"
    " setdefault split splitlines startswith strip update upper values zfill bit_length removeprefix removesuffix"
    " isascii isdecimal add discard".split()
)
DUNDERS = set(
    "init eq repr str len enter exit call iter add sub mul floordiv mod pow and or xor lshift rshift neg pos invert"
    " abs bool contains getitem setitem lt le gt ge ne".split()
)
LIBRARY = {"heapq": {"heappush", "heappop", "heapify"}, "math": {"gcd", "lcm", "isqrt", "comb"}}
BARRED_NAMES = set(
    "register mro elements open input law version_info with_traceback add_note attrgetter breakpoint builtins compile"
    " copyright credits delattr dir eval exec exit gc globals help id importlib license locals methodcaller os quit"
    " super type vars sys".split()
)
BARRED_WORDS = re.compile(
    r"\b(typing|typing_extensions|enum|Enum|IntEnum|StrEnum|Flag|IntFlag|Generic|Protocol|ABC|ABCMeta|namedtuple"
    r"|NamedTuple|TypedDict|TYPE_CHECKING|abstractmethod)\b|dataclass|overload|contextmanager|\(type\)|Meta|metaclass="
)
TAKES_LIST = {"any", "all", "min", "max", "sum", "sorted"}
STATEMENTS = (
    ast.Assign, ast.AugAssign, ast.If, ast.While, ast.For, ast.Return, ast.Break, ast.Continue, ast.Pass, ast.Raise,
    ast.Assert, ast.Delete, ast.Nonlocal, ast.With, ast.Try, ast.Expr, ast.FunctionDef, ast.ClassDef, ast.ImportFrom,
)


def files():
    return sorted(path for path in PACKAGE.rglob("*.py"))


def trees():
    return [(path, ast.parse(path.read_text())) for path in files()]


def functions(tree):
    return [node for node in ast.walk(tree) if isinstance(node, ast.FunctionDef)]


def bound_names(tree):
    """All names that are bound anywhere in a file but for imports: pairs of a name and a node."""
    for node in ast.walk(tree):
        if isinstance(node, ast.Name) and isinstance(node.ctx, ast.Store):
            yield node.id, node
        if isinstance(node, ast.arg):
            yield node.arg, node
        if isinstance(node, (ast.FunctionDef, ast.ClassDef)):
            yield node.name, node
        if isinstance(node, ast.ExceptHandler) and node.name:
            yield node.name, node


def local_names(tree):
    """The names that functions bind as parameters, variables, errors or nested functions."""
    for function in functions(tree):
        for name, node in bound_names(function):
            if node is not function:
                yield name, node


class Language(unittest.TestCase):
    def refuse(self, path, node, rule):
        self.fail(f"{path.name}:{getattr(node, 'lineno', node)}: {rule}")

    def test_files(self):
        for path in PACKAGE.rglob("*"):
            if "__pycache__" in path.parts:
                continue
            self.assertTrue(path.is_file() and re.fullmatch(r"[a-z_][a-z0-9_]*\.py", path.name), path)
            text = path.read_bytes()
            self.assertTrue(all(byte == 10 or 32 <= byte <= 126 for byte in text), path)
            lines = text.decode().splitlines()
            self.assertLessEqual(len(lines), 399, path)
            for at, line in enumerate(lines):
                if len(line) > 120:
                    self.refuse(path, at + 1, "a line of more than 120 characters")
        self.assertTrue((PACKAGE / "__init__.py").is_file())

    def test_functions_are_small_and_plain(self):
        for path, tree in trees():
            for node in functions(tree):
                if node.end_lineno - node.lineno + 1 > 40:
                    self.refuse(path, node, "a function of more than 40 lines")
                for mark in node.decorator_list:
                    if ast.unparse(mark) not in ("staticmethod", "classmethod", "property"):
                        self.refuse(path, node, "a decorator")
                if node.name.startswith("__") and node.name.strip("_") not in DUNDERS:
                    self.refuse(path, node, "a double-underscore method")

    def test_module_level(self):
        for path, tree in trees():
            for node in tree.body:
                if isinstance(node, ast.Assign):
                    self.assertEqual(len(node.targets), 1, path)
                    self.assertIsInstance(node.targets[0], ast.Name, path)
                    calls = [inner for inner in ast.walk(node.value) if isinstance(inner, (ast.Call, ast.ListComp))]
                    self.assertEqual(calls, [], path)
                elif isinstance(node, ast.Expr):
                    self.assertIsInstance(node.value, ast.Constant, path)
                elif not isinstance(node, (ast.ImportFrom, ast.FunctionDef, ast.ClassDef)):
                    self.refuse(path, node, "at module level")

    def test_statements_and_expressions(self):
        for path, tree in trees():
            for node in ast.walk(tree):
                if isinstance(node, ast.stmt) and not isinstance(node, STATEMENTS):
                    self.refuse(path, node, "a statement that is not allowed")
                if isinstance(node, (ast.Div, ast.MatMult, ast.Await, ast.Set, ast.SetComp, ast.Lambda)):
                    self.refuse(path, node, "an expression that is not used here")
                if isinstance(node, ast.Constant) and isinstance(node.value, (float, complex)):
                    self.refuse(path, node, "a float")
                if isinstance(node, ast.Constant) and isinstance(node.value, str):
                    if "%" in node.value or re.fullmatch(r"__.*__", node.value) or node.value.endswith("._"):
                        self.refuse(path, node, "a string that is not allowed")
                if isinstance(node, ast.BinOp) and isinstance(node.op, ast.Pow):
                    if not isinstance(node.right, ast.Constant) or not 0 <= node.right.value <= 64:
                        self.refuse(path, node, "an exponent")
                if isinstance(node, ast.Compare):
                    for word, right in zip(node.ops, node.comparators):
                        if isinstance(word, (ast.Is, ast.IsNot)) and not isinstance(right, ast.Constant):
                            self.refuse(path, node, "is")

    def test_calls(self):
        own = set()
        for _, tree in trees():
            for node in ast.walk(tree):
                if isinstance(node, (ast.FunctionDef, ast.ClassDef)):
                    own.add(node.name)
        for path, tree in trees():
            for node in ast.walk(tree):
                if not isinstance(node, ast.Call):
                    continue
                if isinstance(node.func, ast.Attribute) and node.func.attr not in METHODS | own:
                    self.refuse(path, node, f"the method {node.func.attr}")
                if isinstance(node.func, ast.Name) and node.func.id in TAKES_LIST:
                    if any(isinstance(given, ast.GeneratorExp) for given in node.args):
                        self.refuse(path, node, "a generator expression beside a class with __eq__")

    def test_names(self):
        for path, tree in trees():
            imported = set()
            classes = {node.name for node in tree.body if isinstance(node, ast.ClassDef)}
            for node in tree.body:
                if isinstance(node, ast.ImportFrom):
                    imported |= {name.name for name in node.names}
            known = {name for name, _ in bound_names(tree)} | imported
            for node in ast.walk(tree):
                if isinstance(node, ast.Name) and isinstance(node.ctx, ast.Load):
                    if node.id not in known | BUILTINS:
                        self.refuse(path, node, f"the name {node.id}")
            for name, node in local_names(tree):
                if name in imported | classes:
                    self.refuse(path, node, f"{name} is an import or a class of this file")
            for name, node in bound_names(tree):
                if name in BARRED_NAMES or (hasattr(builtins, name) and not name.startswith("__")):
                    self.refuse(path, node, f"the name {name}")
                if not name.startswith("__") and not re.fullmatch(r"_|_?[A-Za-z][A-Za-z0-9_]*", name):
                    self.refuse(path, node, f"the name {name}")
            used = {node.id for node in ast.walk(tree) if isinstance(node, ast.Name)}
            self.assertEqual(imported - used, set(), path)

    def test_top_names_are_bound_once(self):
        for path, tree in trees():
            names = []
            for node in tree.body:
                if isinstance(node, ast.ImportFrom):
                    names += [name.name for name in node.names]
                if isinstance(node, ast.Assign):
                    names.append(node.targets[0].id)
                if isinstance(node, (ast.FunctionDef, ast.ClassDef)):
                    names.append(node.name)
            self.assertEqual(len(names), len(set(names)), path)

    def test_imports(self):
        defined = {}
        reads = {}
        for path, tree in trees():
            module = "ellwarden." + path.stem
            reads[module] = []
            defined[module] = {name for node in tree.body for name in self.top_names(node)}
            for node in ast.walk(tree):
                self.assertNotIsInstance(node, ast.Import, path)
                if isinstance(node, ast.ImportFrom) and node.module not in LIBRARY:
                    reads[module].append(node.module)
        for path, tree in trees():
            for node in ast.walk(tree):
                if isinstance(node, ast.ImportFrom):
                    self.assertEqual(node.level, 0)
                    for name in node.names:
                        self.assertIsNone(name.asname)
                        self.assertIn(name.name, LIBRARY.get(node.module) or defined[node.module], path)
        for module in reads:
            self.assertNotIn(module, self.behind(module, reads))

    def top_names(self, node):
        if isinstance(node, ast.Assign):
            return [node.targets[0].id]
        return [node.name] if isinstance(node, (ast.FunctionDef, ast.ClassDef)) else []

    def behind(self, module, reads):
        found = []
        queue = list(reads[module])
        while queue:
            other = queue.pop()
            if other not in found:
                found.append(other)
                queue += reads[other]
        return found

    def test_no_name_is_a_method_and_an_attribute(self):
        for path, tree in trees():
            for node in ast.walk(tree):
                if not isinstance(node, ast.ClassDef):
                    continue
                methods = [inner.name for inner in node.body if isinstance(inner, ast.FunctionDef)]
                self.assertEqual(len(methods), len(set(methods)), path)
                for inner in ast.walk(node):
                    if isinstance(inner, ast.Attribute) and isinstance(inner.ctx, ast.Store):
                        self.assertNotIn(inner.attr, methods, path)

    def test_no_name_is_a_method_here_and_an_attribute_there(self):
        methods, attributes = set(), set()
        for _, tree in trees():
            for node in ast.walk(tree):
                if isinstance(node, ast.ClassDef):
                    methods |= {inner.name for inner in node.body if isinstance(inner, ast.FunctionDef)}
                if isinstance(node, ast.Attribute) and isinstance(node.ctx, ast.Store):
                    attributes.add(node.attr)
        self.assertEqual(methods & attributes, set())

    def test_barred_words(self):
        for path in files():
            text = path.read_text()
            self.assertIsNone(BARRED_WORDS.search(text), path)
            for token in tokenize.generate_tokens(io.StringIO(text).readline):
                if token.type == tokenize.NAME:
                    self.assertNotEqual(token.string, "type", path)

    def test_generators_have_names_of_their_own(self):
        yielding = []
        names = []
        for _, tree in trees():
            for node in functions(tree):
                names.append(node.name)
                if any(isinstance(inner, (ast.Yield, ast.YieldFrom)) for inner in ast.walk(node)):
                    yielding.append(node.name)
        for name in yielding:
            self.assertEqual(names.count(name), 1, name)


if __name__ == "__main__":
    unittest.main()
