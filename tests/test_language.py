"""The package keeps to the rules of its language, as far as they can be seen in its syntax."""

import ast
import builtins
import io
import os
import re
import tokenize
import unittest

ROOT = os.path.dirname(os.path.dirname(os.path.abspath(__file__)))
PACKAGE = "tworivals"
FOLDER = os.path.join(ROOT, PACKAGE)

BUILTINS = """len range enumerate zip min max sum abs sorted reversed int str bool bytes list tuple dict set frozenset
isinstance ord repr any all divmod pow getattr hasattr setattr Exception ValueError TypeError KeyError IndexError
LookupError ZeroDivisionError ArithmeticError OverflowError RuntimeError NotImplementedError AttributeError
StopIteration NotImplemented iter next map property staticmethod classmethod super""".split()

# What doctest keeps under the name of a single underscore is none of them.
ALL_BUILTINS = set(dir(builtins)) - {"_"}

METHODS = """append clear copy count endswith extend find get index insert isalnum isalpha isdigit islower isspace isupper
items join keys ljust lower lstrip partition pop remove replace reverse rfind rjust rpartition rsplit rstrip setdefault
split splitlines startswith strip update upper values zfill bit_length title capitalize swapcase casefold center
expandtabs removeprefix removesuffix rindex isascii isdecimal isnumeric istitle isidentifier isprintable add
discard""".split()

LIBRARY = {"heapq": ["heappush", "heappop", "heapify", "heapreplace", "heappushpop"],
           "math": ["gcd", "lcm", "isqrt", "comb", "perm", "factorial"],
           "itertools": ["product", "combinations", "permutations", "chain", "accumulate", "pairwise", "islice",
                         "zip_longest"],
           "collections": ["defaultdict"]}

KEYWORDS = {"sorted": {"key", "reverse"}, "min": {"key", "default"}, "max": {"key", "default"}, "sum": {"start"},
            "enumerate": {"start"}, "zip": {"strict"}}

NEVER_NAMED = """register mro elements open input law version_info with_traceback add_note attrgetter breakpoint builtins
compile copyright credits delattr dir eval exec exit gc globals help id importlib license locals methodcaller os quit
type vars sys""".split()

BARRED_WORDS = """type typing typing_extensions enum Enum IntEnum StrEnum Flag IntFlag Generic Protocol ABC ABCMeta
namedtuple NamedTuple TypedDict TYPE_CHECKING abstractmethod""".split()

DUNDERS = """__init__ __eq__ __repr__ __str__ __len__ __enter__ __exit__ __call__ __iter__ __contains__ __getitem__
__setitem__""".split()

BARRED_NODES = (ast.Global, ast.AsyncFunctionDef, ast.AsyncFor, ast.AsyncWith, ast.Await, ast.Div, ast.MatMult,
                ast.Import)


def files():
    found = {}
    for name in sorted(os.listdir(FOLDER)):
        if name.endswith(".py"):
            with open(os.path.join(FOLDER, name), encoding="utf-8", newline="") as file:
                text = file.read()
            found[name[:-3]] = (text, ast.parse(text))
    return found


def bound_at_module_level(tree):
    for node in tree.body:
        if isinstance(node, (ast.FunctionDef, ast.ClassDef)):
            yield node.name
        elif isinstance(node, ast.Assign):
            yield node.targets[0].id
        elif isinstance(node, ast.ImportFrom):
            yield from [alias.name for alias in node.names]


def bound_names(function):
    """All names that a function assigns, its parameters among them."""
    for node in ast.walk(function):
        if isinstance(node, ast.arg):
            yield node.arg
        elif isinstance(node, ast.Name) and not isinstance(node.ctx, ast.Load):
            yield node.id
        elif isinstance(node, ast.FunctionDef) and node is not function:
            yield node.name


def is_literal(node):
    allowed = (ast.Constant, ast.List, ast.Tuple, ast.Dict, ast.UnaryOp, ast.USub, ast.Load, ast.Name)
    return all(isinstance(part, allowed) for part in ast.walk(node))


def functions(tree):
    return [node for node in ast.walk(tree) if isinstance(node, ast.FunctionDef)]


def parents(tree):
    return {child: node for node in ast.walk(tree) for child in ast.iter_child_nodes(node)}


class TestLanguage(unittest.TestCase):

    def setUp(self):
        self.files = files()
        self.own_methods = {method.name for _, tree in self.files.values() for node in ast.walk(tree)
                            if isinstance(node, ast.ClassDef) for method in functions(node)}

    def each(self, kind):
        for name, (_, tree) in self.files.items():
            for node in ast.walk(tree):
                if isinstance(node, kind):
                    yield f"{name}.py:{getattr(node, 'lineno', 0)}", node

    def test_files(self):
        self.assertIn("__init__", self.files)
        self.assertLessEqual(len(self.files), 100)
        for name in os.listdir(FOLDER):
            if name != "__pycache__":
                self.assertRegex(name, r"\A[a-z0-9_]+\.py\Z")
        for name, (text, _) in self.files.items():
            self.assertRegex(text, r"\A[\n -~]+\Z", name)
            lines = text.split("\n")
            self.assertLessEqual(len(lines) - 1, 399, name)
            self.assertLessEqual(max(map(len, lines)), 120, name)

    def test_functions_are_short(self):
        for name, (_, tree) in self.files.items():
            for function in functions(tree):
                self.assertLessEqual(function.end_lineno - function.lineno + 1, 40, (name, function.name))

    def test_imports(self):
        uses = {}
        for name, (_, tree) in self.files.items():
            uses[name] = set()
            behind = [node for node in tree.body if not isinstance(node, ast.ImportFrom)]
            heads = [node for node in ast.walk(tree) if isinstance(node, ast.ImportFrom)]
            others = [node.lineno for node in behind if not isinstance(node, ast.Expr)]
            for node in heads:
                self.assertIn(node, tree.body, name)
                self.assertLess(node.lineno, min(others, default=10 ** 6), name)
                self.assertEqual([alias.asname for alias in node.names], [None] * len(node.names), name)
                if node.module in LIBRARY:
                    self.assertLessEqual({alias.name for alias in node.names}, set(LIBRARY[node.module]), name)
                    continue
                package, _, file = node.module.partition(".")
                self.assertEqual((package, node.level), (PACKAGE, 0), name)
                defined = [bound for bound in self.files[file][1].body if not isinstance(bound, ast.ImportFrom)]
                for alias in node.names:
                    self.assertIn(alias.name, list(bound_at_module_level(ast.Module(defined, []))), name)
                uses[name].add(file)
        while uses:
            free = [name for name, used in uses.items() if not used & set(uses)]
            self.assertTrue(free, f"files that import from each other: {sorted(uses)}")
            for name in free:
                del uses[name]

    def test_all_that_is_imported_is_used(self):
        for name, (_, tree) in self.files.items():
            imported = {alias.name for node in tree.body if isinstance(node, ast.ImportFrom) for alias in node.names}
            used = {node.id for node in ast.walk(tree) if isinstance(node, ast.Name)}
            self.assertLessEqual(imported, used, name)

    def test_module_level(self):
        for name, (_, tree) in self.files.items():
            for at, node in enumerate(tree.body):
                if isinstance(node, ast.Assign):
                    self.assertTrue(isinstance(node.targets[0], ast.Name) and len(node.targets) == 1, name)
                    self.assertTrue(is_literal(node.value), (name, node.lineno))
                elif isinstance(node, ast.Expr):
                    self.assertTrue(at == 0 and isinstance(node.value, ast.Constant), name)
                else:
                    self.assertIsInstance(node, (ast.ImportFrom, ast.FunctionDef, ast.ClassDef), name)
            bound = list(bound_at_module_level(tree))
            self.assertEqual(len(bound), len(set(bound)), name)

    def test_names(self):
        for name, (_, tree) in self.files.items():
            imported = [alias.name for node in tree.body if isinstance(node, ast.ImportFrom) for alias in node.names]
            classes = [node.name for node in tree.body if isinstance(node, ast.ClassDef)]
            bound = set(bound_at_module_level(tree)) - set(imported)
            for function in functions(tree):
                local = set(bound_names(function))
                self.assertFalse(local & set(imported + classes), (name, function.name))
                bound |= local
            for word in bound:
                self.assertNotIn(word, ALL_BUILTINS, name)
                self.assertNotIn(word, NEVER_NAMED, name)
                self.assertRegex(word, r"\A(_|_?[A-Za-z][A-Za-z0-9_]*)\Z", name)
                self.assertNotRegex(word, r"\A(_wall|_pe_|_dcw_|_enum_|_cm_|_twin_re_|_lay_|_law_|_stub_|_sre)", name)
                self.assertNotRegex(word, r"\A(_cold|_tuplegetter|_outside|_record|_written_out|_member_names)[0-9_]*\Z")

    def test_builtins(self):
        for where, node in self.each(ast.Name):
            if isinstance(node.ctx, ast.Load) and node.id in ALL_BUILTINS:
                self.assertIn(node.id, BUILTINS, where)
            self.assertFalse(node.id == "_" and isinstance(node.ctx, ast.Load), where)

    def test_classes(self):
        for where, node in self.each(ast.ClassDef):
            self.assertEqual(node.decorator_list, [], where)
            names = [method.name for method in node.body if isinstance(method, ast.FunctionDef)]
            for method in node.body:
                self.assertIsInstance(method, (ast.FunctionDef, ast.Expr, ast.Assign), where)
            for name in names:
                if name.startswith("__"):
                    self.assertIn(name, DUNDERS, where)
            inits = [method for method in node.body if getattr(method, "name", "") == "__init__"]
            for init in inits:
                self.assertFalse([part for part in ast.walk(init) if isinstance(part, ast.Return)], where)

    def test_decorators(self):
        for where, node in self.each(ast.FunctionDef):
            for decorator in node.decorator_list:
                self.assertTrue(getattr(decorator, "id", getattr(decorator, "attr", "")) in
                                ("property", "setter", "staticmethod", "classmethod"), where)

    def test_statements_and_values(self):
        for where, node in self.each(BARRED_NODES):
            self.fail(f"{where}: {node}")
        for where, node in self.each(ast.Constant):
            self.assertNotIsInstance(node.value, (float, complex), where)
            if isinstance(node.value, str):
                self.assertNotIn("%", node.value, where)
                self.assertNotRegex(node.value, r"\._\Z|\.__\Z|\A__(.|\n)*__\Z", where)
        for where, node in self.each(ast.Compare):
            for sign, right in zip(node.ops, node.comparators):
                if isinstance(sign, (ast.Is, ast.IsNot)):
                    self.assertTrue(isinstance(right, ast.Constant) and right.value in (None, True, False), where)

    def test_stars(self):
        for where, node in self.each(ast.Subscript):
            self.assertFalse([part for part in ast.walk(node.slice) if isinstance(part, ast.Starred)], where)
        for where, node in self.each(ast.Call):
            starred = [at for at, part in enumerate(node.args) if isinstance(part, ast.Starred)]
            if starred:
                values = [getattr(part, "value", part) if isinstance(part, ast.Starred) else part for part in
                          node.args[starred[0]:]]
                for value in values:
                    self.assertIsInstance(value, (ast.Name, ast.Attribute, ast.Constant, ast.List, ast.Tuple), where)

    def test_errors(self):
        for where, node in self.each(ast.ExceptHandler):
            self.assertIsNotNone(node.type, where)
            caught = node.type.elts if isinstance(node.type, ast.Tuple) else [node.type]
            for error in caught:
                self.assertTrue(error.id not in ALL_BUILTINS or error.id in
                                ("KeyError", "ZeroDivisionError", "StopIteration", "ValueError", "LookupError",
                                 "IndexError"), where)
        for where, node in self.each(ast.Raise):
            self.assertTrue(node.exc is None or isinstance(node.exc, ast.Call) and isinstance(node.exc.func, ast.Name),
                            where)

    def test_calls(self):
        for where, node in self.each(ast.Call):
            if isinstance(node.func, ast.Name) and node.func.id in ALL_BUILTINS:
                words = {keyword.arg for keyword in node.keywords}
                self.assertLessEqual(words, KEYWORDS.get(node.func.id, set()), where)
                if node.func.id in ("any", "all", "min", "max", "sum", "sorted"):
                    self.assertFalse([part for part in node.args if isinstance(part, ast.GeneratorExp)], where)
            elif isinstance(node.func, ast.Attribute):
                self.assertIn(node.func.attr, METHODS + sorted(self.own_methods) + ["format", "sort"], where)

    def test_sets(self):
        for name, (_, tree) in self.files.items():
            above = parents(tree)
            for node in ast.walk(tree):
                made = isinstance(node, ast.Call) and getattr(node.func, "id", "") == "set"
                if made or isinstance(node, (ast.Set, ast.SetComp)):
                    over = above[node]
                    asked = isinstance(over, ast.Call) and getattr(over.func, "id", "") in ("sorted", "len")
                    stored = isinstance(over, ast.Assign) and isinstance(over.targets[0], ast.Name)
                    joined = isinstance(over, (ast.Compare, ast.BinOp))
                    self.assertTrue(asked or stored or joined, (name, node.lineno))

    def test_words(self):
        for name, (text, tree) in self.files.items():
            docs = [node.body[0].value for node in ast.walk(tree)
                    if isinstance(node, (ast.Module, ast.ClassDef, ast.FunctionDef)) and ast.get_docstring(node)]
            places = {(doc.lineno, doc.col_offset) for doc in docs}
            for token in tokenize.generate_tokens(io.StringIO(text).readline):
                self.assertNotRegex(token.string, "_wall|_WallAttr", name)
                if token.type != tokenize.COMMENT and token.start not in places:
                    words = set(re.findall(r"[A-Za-z_0-9]+", token.string))
                    self.assertFalse(words & set(BARRED_WORDS), (name, token))
