"""The form of the code: what of the rules L1 to L28 a look at the files can tell."""

import ast
import builtins
import io
import re
import tokenize
import unittest
from pathlib import Path

PACKAGE = Path(__file__).resolve().parent.parent / "takeandsplit"
FILES = sorted(PACKAGE.glob("*.py"))
TREES = {path.stem: ast.parse(path.read_text(encoding="utf-8")) for path in FILES}

LIBRARY = {
    "heapq": {"heappush", "heappop", "heapify", "heapreplace", "heappushpop"},
    "math": {"gcd", "lcm", "isqrt", "comb", "perm", "factorial"},
    "itertools": {"product", "combinations", "permutations", "chain", "accumulate", "pairwise", "islice", "zip_longest"},
    "collections": {"defaultdict"},
}
BUILTINS = set("""len range enumerate zip min max sum abs sorted reversed int str bool list tuple dict set isinstance ord
    repr any all divmod pow map iter next getattr hasattr setattr Exception ValueError TypeError KeyError IndexError
    LookupError ZeroDivisionError ArithmeticError OverflowError RuntimeError NotImplementedError AttributeError
    StopIteration NotImplemented""".split())
METHODS = set("""append clear copy count endswith extend find get index insert isalnum isalpha isdigit islower isspace
    isupper items join keys ljust lower lstrip partition pop remove replace reverse rfind rjust rpartition rsplit rstrip
    setdefault split splitlines startswith strip update upper values zfill bit_length title capitalize swapcase casefold
    center expandtabs removeprefix removesuffix rindex isascii isdecimal isnumeric istitle isidentifier isprintable
    translate""".split())
STATEMENTS = (ast.Assign, ast.AnnAssign, ast.AugAssign, ast.If, ast.While, ast.For, ast.Return, ast.Break, ast.Continue,
              ast.Pass, ast.Raise, ast.Assert, ast.Delete, ast.Nonlocal, ast.With, ast.Try, ast.Expr, ast.FunctionDef,
              ast.ClassDef, ast.ImportFrom)
SIMPLE = {ast.Assign, ast.Tuple, ast.Name, ast.Attribute, ast.Load, ast.Store}
BARRED_NAMES = set("""register mro elements open input law version_info with_traceback add_note attrgetter breakpoint builtins
    compile copyright credits delattr dir eval exec exit gc globals help id importlib license locals methodcaller os quit
    super type vars sys""".split())
BARRED_WORDS = set("""typing typing_extensions enum Enum IntEnum StrEnum Flag IntFlag Generic Protocol ABC ABCMeta namedtuple
    NamedTuple TypedDict TYPE_CHECKING abstractmethod""".split())
BARRED_ATTRIBUTES = set("""items keys values pop update append clear extend insert remove reverse setdefault sort args encode
    decode hex fromhex format format_map mro as_integer_ratio bit_count conjugate from_bytes is_integer to_bytes real imag
    numerator denominator""".split())
AT_ONCE = {"range", "enumerate", "zip", "reversed", "map"}
VIEWS = {"items", "keys", "values"}
TAKERS = {"list", "tuple", "dict", "sorted", "sum", "any", "all", "enumerate", "zip", "min", "max"}


def functions(tree):
    return [node for node in ast.walk(tree) if isinstance(node, ast.FunctionDef)]


def yields(function):
    return any(isinstance(node, (ast.Yield, ast.YieldFrom)) for node in ast.walk(function))


def bound_names(tree):
    """All names that are assigned, of parameters, functions and classes, with their nodes."""
    for node in ast.walk(tree):
        if isinstance(node, ast.Name) and not isinstance(node.ctx, ast.Load):
            yield node.id, node
        elif isinstance(node, ast.arg):
            yield node.arg, node
        elif isinstance(node, (ast.FunctionDef, ast.ClassDef)):
            yield node.name, node
        elif isinstance(node, ast.ImportFrom):
            for alias in node.names:
                yield alias.asname or alias.name, node


def parents(tree):
    return {child: node for node in ast.walk(tree) for child in ast.iter_child_nodes(node)}


def is_call_of(node, names):
    return isinstance(node, ast.Call) and isinstance(node.func, ast.Name) and node.func.id in names


def families():
    """For each class the names of methods and of attributes, its own and those of its base classes."""
    classes = {node.name: node for tree in TREES.values() for node in ast.walk(tree) if isinstance(node, ast.ClassDef)}
    told = {}
    for name, node in classes.items():
        line = [node]
        while line[-1].bases and line[-1].bases[0].id in classes:
            line.append(classes[line[-1].bases[0].id])
        parts = [part for one in line for part in ast.walk(one)]
        made = {part.name for part in parts if isinstance(part, ast.FunctionDef)}
        kept = {part.attr for part in parts if isinstance(part, ast.Attribute) and isinstance(part.ctx, ast.Store)}
        told[name] = (made, kept)
    return told


class LanguageTest(unittest.TestCase):
    def each(self):
        for stem, tree in TREES.items():
            yield stem, tree

    def test_files(self):
        self.assertTrue((PACKAGE / "__init__.py").exists())
        for path in PACKAGE.iterdir():
            if path.name != "__pycache__":
                self.assertRegex(path.name, r"\A[a-z_][a-z0-9_]*\.py\Z")
        self.assertLessEqual(len(FILES), 100)
        for path in FILES:
            text = path.read_text(encoding="utf-8")
            self.assertTrue(all(sign == "\n" or " " <= sign <= "~" for sign in text), path)
            self.assertLessEqual(len(text.splitlines()), 399, path)
            self.assertLessEqual(max(map(len, text.splitlines()), default=0), 120, path)
            self.assertFalse(path.stem in dir(builtins), path)

    def test_sizes(self):
        for stem, tree in self.each():
            for function in functions(tree):
                self.assertLessEqual(function.end_lineno - function.lineno + 1, 40, (stem, function.name))

    def test_imports(self):
        graph = {stem: set() for stem in TREES}
        for stem, tree in self.each():
            self.assertFalse([node for node in ast.walk(tree) if isinstance(node, ast.Import)])
            for node in ast.walk(tree):
                if not isinstance(node, ast.ImportFrom):
                    continue
                self.assertIn(node, tree.body, stem)
                self.assertEqual(node.level, 0)
                names = {alias.name for alias in node.names}
                if node.module in LIBRARY:
                    self.assertLessEqual(names, LIBRARY[node.module])
                    continue
                package, _, module = node.module.partition(".")
                self.assertEqual(package, "takeandsplit")
                graph[stem].add(module)
                made = {name for part in TREES[module].body if not isinstance(part, ast.ImportFrom)
                        for name in ([part.name] if hasattr(part, "name") else
                                     [target.id for target in getattr(part, "targets", [])])}
                self.assertLessEqual(names, made, (stem, module))
        done = set()
        while len(done) < len(graph):
            free = {stem for stem in graph if stem not in done and graph[stem] <= done}
            self.assertTrue(free, "files import from each other")
            done |= free

    def test_imports_are_used(self):
        for stem, tree in self.each():
            used = {node.id for node in ast.walk(tree) if isinstance(node, ast.Name)}
            for node in tree.body:
                if isinstance(node, ast.ImportFrom):
                    for alias in node.names:
                        self.assertIn(alias.name, used, stem)

    def test_module_level(self):
        for stem, tree in self.each():
            names = []
            for at, node in enumerate(tree.body):
                if isinstance(node, ast.Expr):
                    self.assertTrue(at == 0 and isinstance(node.value, ast.Constant), stem)
                elif isinstance(node, ast.Assign):
                    self.assertEqual(len(node.targets), 1)
                    self.assertIsInstance(node.targets[0], ast.Name)
                    ast.literal_eval(node.value)
                    names.append(node.targets[0].id)
                else:
                    self.assertIsInstance(node, (ast.ImportFrom, ast.FunctionDef, ast.ClassDef))
                    names += [alias.name for alias in node.names] if isinstance(node, ast.ImportFrom) else [node.name]
            self.assertEqual(len(names), len(set(names)), stem)

    def test_nodes(self):
        for stem, tree in self.each():
            for node in ast.walk(tree):
                if isinstance(node, ast.stmt):
                    self.assertIsInstance(node, STATEMENTS, (stem, node.lineno))
                self.assertNotIsInstance(node, (ast.Div, ast.Await, ast.Global, ast.Match))
                if isinstance(node, ast.Constant):
                    self.assertNotIsInstance(node.value, (float, complex, bytes))
                if isinstance(node, (ast.FunctionDef, ast.ClassDef)):
                    self.assertEqual(node.decorator_list, [], stem)
                    self.assertTrue(ast.get_docstring(node) or node.name.startswith("__"), (stem, node.name))
                if isinstance(node, ast.BinOp) and isinstance(node.op, ast.Pow):
                    self.assertIsInstance(node.right, ast.Constant, stem)
                if isinstance(node, ast.Compare):
                    for op, right in zip(node.ops, node.comparators):
                        if isinstance(op, (ast.Is, ast.IsNot)):
                            self.assertIsInstance(right, ast.Constant)
                if isinstance(node, ast.Try):
                    self.assertEqual((node.handlers, node.orelse), ([], []), f"{stem}: look at L19")
                    for part in node.finalbody:
                        self.assertIsInstance(part, ast.Assign, f"{stem}: look at L6, Finally")
                        self.assertLessEqual({type(inner) for inner in ast.walk(part)}, SIMPLE, stem)

    def test_names(self):
        for stem, tree in self.each():
            outer = {alias.name for node in tree.body if isinstance(node, ast.ImportFrom) for alias in node.names}
            outer |= {node.name for node in tree.body if isinstance(node, ast.ClassDef)}
            methods = {node for top in ast.walk(tree) if isinstance(top, ast.ClassDef) for node in top.body}
            for name, node in bound_names(tree):
                self.assertRegex(name, r"\A([A-Za-z][A-Za-z0-9_]*|_[A-Za-z][A-Za-z0-9_]*|_|__[a-z]+__)\Z")
                self.assertNotIn(name, BARRED_NAMES, stem)
                if node not in methods:
                    self.assertFalse(name in dir(builtins), (stem, name))
                if not isinstance(node, (ast.ImportFrom, ast.ClassDef)) and node not in methods:
                    self.assertNotIn(name, outer, stem)
                if isinstance(node, ast.FunctionDef) and name.startswith("__"):
                    self.assertIn(name, ("__init__", "__eq__"))
            for node in ast.walk(tree):
                if isinstance(node, ast.Name) and isinstance(node.ctx, ast.Load):
                    self.assertNotEqual(node.id, "_", stem)
                    if node.id in dir(builtins):
                        self.assertIn(node.id, BUILTINS, stem)

    def test_words(self):
        for path in FILES:
            text = path.read_text(encoding="utf-8")
            for token in tokenize.generate_tokens(io.StringIO(text).readline):
                if token.type == tokenize.STRING:
                    self.assertNotIn("%", token.string, path)
                    self.assertFalse(re.search(r"\\[^nt\\\"']", token.string), (path, token.string))
                    self.assertFalse(re.search(r"\._+[\"']", token.string), path)
                if token.type == tokenize.NAME:
                    self.assertNotIn(token.string, BARRED_WORDS | {"type", "async", "global", "lambda_"}, path)
            for word in ("dataclass", "overload", "contextmanager", "_wall", "_WallAttr"):
                self.assertNotIn(word, text)

    def test_methods_and_attributes(self):
        own = {part.name for tree in TREES.values() for node in ast.walk(tree) if isinstance(node, ast.ClassDef)
               for part in node.body if isinstance(part, ast.FunctionDef)}
        stored = {node.attr for tree in TREES.values() for node in ast.walk(tree)
                  if isinstance(node, ast.Attribute) and isinstance(node.ctx, ast.Store)}
        for name, (made, kept) in families().items():
            self.assertFalse(made & kept, (name, "methods and attributes have names of their own"))
        self.assertFalse(stored & BARRED_ATTRIBUTES)
        for stem, tree in self.each():
            above = parents(tree)
            for node in ast.walk(tree):
                if isinstance(node, ast.Attribute):
                    called = isinstance(above[node], ast.Call) and above[node].func is node
                    self.assertIn(node.attr, own | METHODS if called else stored, (stem, node.lineno))
                    if called and node.attr in METHODS:
                        self.assertEqual(above[node].keywords, [], stem)

    def test_iterated_at_once(self):
        generators = {function.name for tree in TREES.values() for function in functions(tree) if yields(function)}
        names = [function.name for tree in TREES.values() for function in functions(tree)]
        for name in generators:
            self.assertEqual(names.count(name), 1, name)
        for stem, tree in self.each():
            above = parents(tree)
            for node in ast.walk(tree):
                if isinstance(node, ast.Name) and node.id in generators:
                    self.assertTrue(isinstance(above[node], ast.Call) and above[node].func is node, (stem, node.id))
                view = isinstance(node, ast.Call) and isinstance(node.func, ast.Attribute) and node.func.attr in VIEWS
                if not view and not is_call_of(node, AT_ONCE | generators):
                    continue
                upper = above[node]
                at_once = (isinstance(upper, (ast.For, ast.comprehension)) and upper.iter is node
                           or isinstance(upper, ast.YieldFrom) or is_call_of(upper, TAKERS) and upper.args[0] is node)
                self.assertTrue(at_once, (stem, node.lineno))
                if is_call_of(node, generators):
                    for part in node.args:
                        self.assertIsInstance(part, (ast.Name, ast.Attribute, ast.Constant), (stem, node.lineno))

    def test_generator_expressions_and_sets(self):
        for stem, tree in self.each():
            above = parents(tree)
            for node in ast.walk(tree):
                self.assertNotIsInstance(node, (ast.GeneratorExp, ast.Set), stem)
                if isinstance(node, ast.SetComp) or is_call_of(node, {"set"}):
                    self.assertTrue(is_call_of(above[node], {"len", "sorted"}), stem)
                if isinstance(node, ast.Call) and isinstance(node.func, ast.Name) and node.func.id in BUILTINS:
                    allowed = {"sorted": {"key", "reverse"}, "min": {"default"}, "max": {"default"}}
                    self.assertLessEqual({word.arg for word in node.keywords}, allowed.get(node.func.id, set()))

    def test_interface(self):
        text = (PACKAGE.parent / "tests" / "interface.txt").read_text(encoding="utf-8")
        for line in text.splitlines():
            stem, _, wanted = line.partition(": ")
            made = {node.name: node for node in TREES[stem].body if isinstance(node, (ast.FunctionDef, ast.ClassDef))}
            for part in wanted.split("; "):
                name, _, params = part.rstrip(")").partition("(")
                owner, _, method = name.partition(".")
                node = made[owner]
                if method:
                    node = next(inner for inner in functions(node) if inner.name == method)
                told = [arg.arg for arg in node.args.args if arg.arg != "self"]
                self.assertEqual(told, [param for param in params.split(", ") if param], (stem, name))


if __name__ == "__main__":
    unittest.main()
