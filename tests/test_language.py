"""The package keeps to LANGUAGE.md, as far as a simple test can tell."""

import ast
import builtins
import io
import re
import tokenize
import unittest
import warnings
from pathlib import Path

PACKAGE = Path(__file__).resolve().parent.parent / "textworkshop"
FILES = sorted(PACKAGE.rglob("*.py"))
LIBRARY = {
    "heapq": {"heappush", "heappop", "heapify", "heapreplace", "heappushpop"},
    "math": {"gcd", "lcm", "isqrt", "comb", "perm", "factorial"},
    "itertools": {"product", "combinations", "permutations"},
}
BUILTINS = set(
    "len range enumerate zip min max sum abs sorted reversed int str bool bytes list tuple dict set frozenset "
    "isinstance ord repr any all divmod iter next map super Exception ValueError TypeError KeyError IndexError "
    "LookupError ZeroDivisionError ArithmeticError OverflowError RuntimeError NotImplementedError AttributeError "
    "StopIteration NotImplemented property staticmethod classmethod".split())
METHODS = set(
    "append clear copy count endswith extend find get index insert isalnum isalpha isdigit islower isspace isupper "
    "items join keys ljust lower lstrip partition pop remove replace reverse rfind rjust rpartition rsplit rstrip "
    "setdefault split splitlines startswith strip update upper values zfill bit_length title capitalize swapcase "
    "casefold center expandtabs removeprefix removesuffix rindex isascii isdecimal isnumeric istitle isidentifier "
    "isprintable add discard".split())
DUNDERS = set(
    "__init__ __eq__ __repr__ __str__ __len__ __enter__ __exit__ __call__ __iter__ __lt__ __le__ __gt__ __ge__ __ne__ "
    "__add__ __sub__ __mul__ __floordiv__ __mod__ __pow__ __and__ __or__ __xor__ __lshift__ __rshift__ __neg__ "
    "__pos__ __invert__ __abs__ __bool__ __contains__ __getitem__ __setitem__".split())
OPERATORS = DUNDERS - set("__init__ __enter__ __exit__ __call__ __iter__ __setitem__".split())
NOWHERE = set("register mro elements open input law version_info with_traceback add_note".split())
NO_NAMES = NOWHERE | set(
    "attrgetter breakpoint builtins compile copyright credits delattr dir eval exec exit gc getattr globals hasattr "
    "help id importlib license locals methodcaller os quit setattr super type vars sys __name__".split())
NO_WORDS = ("type|typing|typing_extensions|enum|Enum|IntEnum|StrEnum|Flag|IntFlag|Generic|Protocol|ABC|ABCMeta|"
            "namedtuple|NamedTuple|TypedDict|TYPE_CHECKING|abstractmethod")
NO_ATTRIBUTES = set(
    "items keys values pop update append clear extend insert remove reverse setdefault sort args encode decode hex "
    "fromhex format format_map mro as_integer_ratio bit_count conjugate from_bytes is_integer to_bytes".split())
STATEMENTS = (
    ast.Assign, ast.AugAssign, ast.AnnAssign, ast.If, ast.While, ast.For, ast.Return, ast.Break, ast.Continue,
    ast.Pass, ast.Raise, ast.Assert, ast.Delete, ast.Nonlocal, ast.Match, ast.With, ast.Expr, ast.Try,
    ast.FunctionDef, ast.ClassDef, ast.ImportFrom)
CHANGING = set("append clear extend insert pop remove reverse setdefault sort update add discard".split())


def parsed(path):
    with warnings.catch_warnings():
        warnings.simplefilter("error")
        return ast.parse(path.read_text(encoding="utf-8"))


TREES = {path: parsed(path) for path in FILES}


def module_of(path):
    parts = path.relative_to(PACKAGE.parent).with_suffix("").parts
    return ".".join(parts[:-1] if parts[-1] == "__init__" else parts)


def functions_of(tree):
    return [node for node in ast.walk(tree) if isinstance(node, ast.FunctionDef)]


def bound_names(tree):
    """All names that a file binds: variables, parameters, functions, classes, imports."""
    for node in ast.walk(tree):
        if isinstance(node, ast.Name) and isinstance(node.ctx, (ast.Store, ast.Del)):
            yield node.id
        elif isinstance(node, ast.arg):
            yield node.arg
        elif isinstance(node, (ast.FunctionDef, ast.ClassDef)):
            yield node.name
        elif isinstance(node, ast.alias):
            yield node.asname or node.name
        elif isinstance(node, ast.ExceptHandler) and node.name:
            yield node.name
        elif isinstance(node, (ast.MatchAs, ast.MatchStar)) and node.name:
            yield node.name


def docstrings_of(tree):
    found = set()
    for node in ast.walk(tree):
        if isinstance(node, (ast.Module, ast.ClassDef, ast.FunctionDef)) and node.body:
            first = node.body[0]
            if isinstance(first, ast.Expr) and isinstance(first.value, ast.Constant):
                found.add(first.value)
    return found


class FilesTest(unittest.TestCase):
    def test_folder_has_nothing_but_files_with_plain_names(self):
        for path in PACKAGE.rglob("*"):
            if "__pycache__" in path.parts:
                continue
            with self.subTest(path=path.name):
                self.assertTrue(path.is_dir() or path.suffix == ".py")
                self.assertRegex(path.stem, r"\A([a-z][a-z0-9_]*|__init__|__main__)\Z")
                self.assertNotIn(path.stem, set(dir(builtins)) | NOWHERE | set(NO_WORDS.split("|")) | set(LIBRARY))
                self.assertNotRegex(path.stem, r"\A(law_.*|test|tests|testing|test_.*|site|conftest)\Z")
        self.assertTrue((PACKAGE / "__init__.py").is_file())
        self.assertLessEqual(len(FILES), 100)

    def test_sizes_and_characters(self):
        for path in FILES:
            text = path.read_bytes().decode("ascii")
            lines = text.split("\n")
            with self.subTest(path=path.name):
                self.assertTrue(text.endswith("\n"))
                self.assertLessEqual(len(lines) - 1, 399)
                self.assertLessEqual(max(len(line) for line in lines), 120)
                self.assertEqual([c for c in text if c != "\n" and not " " <= c <= "~"], [])
            for node in functions_of(TREES[path]):
                with self.subTest(path=path.name, function=node.name):
                    self.assertLessEqual(node.end_lineno - node.lineno + 1, 40)

    def test_imports(self):
        edges = {}
        for path, tree in TREES.items():
            edges[module_of(path)] = set()
            top = True
            for node in tree.body:
                is_import = isinstance(node, ast.ImportFrom)
                doc = isinstance(node, ast.Expr) and isinstance(node.value, ast.Constant)
                with self.subTest(path=path.name, line=node.lineno):
                    self.assertFalse(isinstance(node, ast.Import))
                    self.assertTrue(top or not is_import, "imports stand at the top")
                top = top and (is_import or doc)
                if is_import:
                    self.check_import(path, tree, node, edges)
            inner = [node for node in ast.walk(tree) if isinstance(node, (ast.Import, ast.ImportFrom))]
            self.assertEqual(len(inner), len([n for n in tree.body if isinstance(n, ast.ImportFrom)]))
        for start in edges:
            seen, work = set(), list(edges[start])
            while work:
                name = work.pop()
                if name not in seen:
                    seen.add(name)
                    work.extend(edges[name])
            self.assertNotIn(start, seen, "files import from each other")

    def check_import(self, path, tree, node, edges):
        names = [alias.name for alias in node.names]
        used = {n.id for n in ast.walk(tree) if isinstance(n, ast.Name) and isinstance(n.ctx, ast.Load)}
        with self.subTest(path=path.name, line=node.lineno):
            self.assertEqual(node.level, 0)
            self.assertNotIn("*", names)
            self.assertEqual([a.asname for a in node.names if a.asname], [])
            self.assertEqual([name for name in names if name not in used], [], "not used")
            if node.module in LIBRARY:
                self.assertLessEqual(set(names), LIBRARY[node.module])
                return
            self.assertTrue(node.module.startswith("textworkshop."))
            edges[module_of(path)].add(node.module)
            target = PACKAGE.parent / (node.module.replace(".", "/") + ".py")
            defined = set()
            for item in TREES[target].body:
                if isinstance(item, (ast.FunctionDef, ast.ClassDef)):
                    defined.add(item.name)
                if isinstance(item, ast.Assign):
                    defined.update(t.id for t in item.targets)
            self.assertLessEqual(set(names), defined, "not defined in that very file")


class CodeTest(unittest.TestCase):
    def each(self, *kinds):
        for path, tree in TREES.items():
            for node in ast.walk(tree):
                if isinstance(node, kinds):
                    yield path, node

    def say(self, path, node):
        return f"{path.name}:{getattr(node, 'lineno', 0)}"

    def test_module_level(self):
        for path, tree in TREES.items():
            bound = []
            for node in tree.body:
                if isinstance(node, ast.Assign):
                    self.assertEqual(len(node.targets), 1, self.say(path, node))
                    self.assertIsInstance(node.targets[0], ast.Name, self.say(path, node))
                    bound.append(node.targets[0].id)
                    for part in ast.walk(node.value):
                        self.assertNotIsInstance(part, (ast.Call, ast.comprehension, ast.Lambda), self.say(path, node))
                    inner = [p for p in ast.walk(node.value) if isinstance(p, (ast.List, ast.Dict))]
                    self.assertTrue(inner in ([], [node.value]), self.say(path, node))
                elif isinstance(node, (ast.FunctionDef, ast.ClassDef)):
                    bound.append(node.name)
                elif isinstance(node, ast.ImportFrom):
                    bound.extend(alias.name for alias in node.names)
                else:
                    self.assertIn(getattr(node, "value", None), docstrings_of(tree), self.say(path, node))
            self.assertEqual(len(bound), len(set(bound)), path.name)

    def test_statements_and_expressions(self):
        for path, node in self.each(ast.stmt):
            self.assertIsInstance(node, STATEMENTS, self.say(path, node))
            self.assertNotIsInstance(node, ast.Import, self.say(path, node))
        for path, node in self.each(ast.Assign):
            if isinstance(node.value, ast.Call) and isinstance(node.value.func, ast.Name):
                if isinstance(node.targets[0], ast.Tuple):
                    self.assertNotIn(node.value.func.id, ("zip", "range", "enumerate", "reversed"))
        for path, node in self.each(ast.BinOp):
            self.assertNotIsInstance(node.op, (ast.Div, ast.MatMult), self.say(path, node))
            self.assertNotIsInstance(node.op, ast.Pow, self.say(path, node))
        for path, node in self.each(ast.Constant):
            self.assertNotIsInstance(node.value, (float, complex), self.say(path, node))
        for path, node in self.each(ast.GeneratorExp, ast.Await, ast.AsyncFor, ast.NamedExpr, ast.Global):
            self.fail(self.say(path, node))
        for path, node in self.each(ast.FunctionDef, ast.ClassDef):
            self.assertEqual(node.decorator_list, [], self.say(path, node))
        for path, node in self.each(ast.Compare):
            for op, right in zip(node.ops, node.comparators):
                if isinstance(op, (ast.Is, ast.IsNot)):
                    self.assertIsInstance(right, ast.Constant, self.say(path, node))
        for path, node in self.each(ast.ExceptHandler):
            self.assertIsInstance(node.type, ast.Name, self.say(path, node))
            self.assertNotIn(node.type.id, (
                "Exception", "TypeError", "ArithmeticError", "OverflowError", "RuntimeError", "NotImplementedError",
                "AttributeError", "ValueError", "LookupError", "IndexError"), self.say(path, node))

    def test_names(self):
        for path, tree in TREES.items():
            imported = {a.name for n in tree.body if isinstance(n, ast.ImportFrom) for a in n.names}
            classes = {n.name for n in tree.body if isinstance(n, ast.ClassDef)}
            methods = {f for c in ast.walk(tree) if isinstance(c, ast.ClassDef) for f in c.body}
            for name in bound_names(tree):
                if name in DUNDERS:
                    continue
                with self.subTest(path=path.name, name=name):
                    self.assertRegex(name, r"\A(_|_?[A-Za-z][A-Za-z0-9_]*)\Z")
                    self.assertNotIn(name, set(dir(builtins)) | NO_NAMES)
                    self.assertNotRegex(name, r"\A(_wall|_pe_|_dcw_|_enum_|_cm_|_twin_re_|_lay_|_law_|_stub_|_sre)")
            for node in functions_of(tree):
                own = {a.arg for a in ast.walk(node) if isinstance(a, ast.arg)}
                own |= {n.id for n in ast.walk(node) if isinstance(n, ast.Name) and isinstance(n.ctx, ast.Store)}
                self.assertEqual(own & (imported | classes), set(), f"{path.name}: {node.name}")
                if node in methods and node.name.startswith("__"):
                    self.assertIn(node.name, DUNDERS)

    def test_builtins(self):
        for path, tree in TREES.items():
            bound = set(bound_names(tree))
            for node in ast.walk(tree):
                if isinstance(node, ast.Name) and isinstance(node.ctx, ast.Load) and node.id not in bound:
                    with self.subTest(path=path.name, line=node.lineno):
                        self.assertIn(node.id, BUILTINS)
                if isinstance(node, ast.Name) and node.id == "_":
                    self.assertIsInstance(node.ctx, ast.Store, self.say(path, node))

    def test_attributes_and_methods(self):
        own_methods = {f.name for path, c in self.each(ast.ClassDef) for f in c.body if isinstance(f, ast.FunctionDef)}
        stored = {n.attr for path, n in self.each(ast.Attribute) if isinstance(n.ctx, ast.Store)}
        for path, node in self.each(ast.Attribute):
            with self.subTest(path=path.name, line=node.lineno, attribute=node.attr):
                self.assertNotIn(node.attr, NOWHERE)
                if isinstance(node.ctx, ast.Store):
                    self.assertNotIn(node.attr, NO_ATTRIBUTES)
                else:
                    self.assertIn(node.attr, own_methods | stored | METHODS)
        for path, node in self.each(ast.Call):
            if isinstance(node.func, ast.Attribute):
                self.assertIn(node.func.attr, own_methods | METHODS, self.say(path, node))
                self.assertTrue(node.func.attr in own_methods or not node.keywords, self.say(path, node))

    def test_methods_are_called_where_they_stand(self):
        own_methods = {f.name for path, c in self.each(ast.ClassDef) for f in c.body if isinstance(f, ast.FunctionDef)}
        stored = {n.attr for path, n in self.each(ast.Attribute) if isinstance(n.ctx, ast.Store)}
        calls = [node for path, node in self.each(ast.Call)]
        called = {node.func for node in calls}
        keys = {k.value for node in calls for k in node.keywords if k.arg == "key"}
        for path, node in self.each(ast.Attribute):
            if isinstance(node.ctx, ast.Load) and node.attr in (own_methods | METHODS) - stored:
                is_own_key = node in keys and node.attr in own_methods
                self.assertTrue(node in called or is_own_key, f"{self.say(path, node)}: {ast.unparse(node)}")

    def test_no_name_is_a_method_and_an_attribute_of_one_class(self):
        for path, node in self.each(ast.ClassDef):
            methods = [f.name for f in node.body if isinstance(f, ast.FunctionDef)]
            stored = {n.attr for n in ast.walk(node) if isinstance(n, ast.Attribute) and isinstance(n.ctx, ast.Store)}
            self.assertEqual(len(methods), len(set(methods)), node.name)
            self.assertEqual(stored & set(methods), set(), node.name)

    def test_strings(self):
        for path, tree in TREES.items():
            for node in ast.walk(tree):
                if isinstance(node, ast.Constant) and isinstance(node.value, str):
                    with self.subTest(path=path.name, line=node.lineno):
                        self.assertNotIn(chr(37), node.value)
                        self.assertFalse(node.value.endswith(("._", ".__")))
                        if node not in docstrings_of(tree):
                            self.assertNotRegex(node.value, rf"\b({NO_WORDS})\b")
            for token in tokenize.generate_tokens(io.StringIO(path.read_text()).readline):
                with self.subTest(path=path.name, line=token.start[0]):
                    if token.type == tokenize.STRING:
                        self.assertRegex(token.string, r"\Af?[\"']")
                        self.assertNotIn("\\", re.sub(r"\\[nt\\\"']", "", token.string))
                    if token.type == tokenize.NAME:
                        self.assertNotRegex(token.string, rf"\A({NO_WORDS})\Z")
                        self.assertNotRegex(token.string, "dataclass|overload|contextmanager")

    def test_braces_in_strings_hold_plain_expressions(self):
        for path, node in self.each(ast.FormattedValue):
            self.assertEqual((node.conversion, node.format_spec), (-1, None), self.say(path, node))
            inner = [part for part in ast.walk(node.value) if isinstance(part, ast.Constant)]
            self.assertFalse([part for part in inner if not isinstance(part.value, int)], self.say(path, node))

    def test_sort_and_literal_sets(self):
        for path, node in self.each(ast.Call):
            if isinstance(node.func, ast.Attribute):
                self.assertNotEqual(node.func.attr, "sort", self.say(path, node))
        for path, node in self.each(ast.For, ast.comprehension):
            self.assertNotIsInstance(node.iter, (ast.Set, ast.SetComp), self.say(path, node))
            called = isinstance(node.iter, ast.Call) and isinstance(node.iter.func, ast.Name)
            self.assertFalse(called and node.iter.func.id in ("set", "frozenset"), self.say(path, node))

    def test_line_lambdas(self):
        lines = [(path, node.lineno) for path, node in self.each(ast.Lambda)]
        self.assertEqual(len(lines), len(set(lines)))


class IndexTest(unittest.TestCase):
    """What holds in a package with a class that has __getitem__, and with one that is iterated over and has __len__."""

    def test_classes_with_items_tell_how_they_are_iterated(self):
        found = 0
        for tree in TREES.values():
            for node in [n for n in ast.walk(tree) if isinstance(n, ast.ClassDef)]:
                methods = {f.name: f for f in node.body if isinstance(f, ast.FunctionDef)}
                if "__getitem__" in methods:
                    found += 1
                    self.assertRegex(ast.unparse(methods["__iter__"].body[0]), r"\Areturn iter\(self(\.\w+){1,2}\)\Z")
                    self.assertEqual(len(methods["__iter__"].body), 1)
                self.assertNotIn("keys", methods)
        self.assertEqual(found, 1)

    def test_reversed_takes_lists_and_ranges(self):
        for path, tree in TREES.items():
            for node in ast.walk(tree):
                if isinstance(node, ast.Call) and isinstance(node.func, ast.Name) and node.func.id == "reversed":
                    self.assertIn(node.args[0].func.id, ("list", "tuple", "sorted", "range"), path.name)

    def test_words_that_do_not_occur(self):
        for path in FILES:
            self.assertNotRegex(path.read_text(), r"\(type\)|Meta|metaclass=|_wall|itertools")

    def test_finally_assigns_only(self):
        for path, tree in TREES.items():
            for node in [n for n in ast.walk(tree) if isinstance(n, ast.Try) and n.finalbody]:
                for part in [p for row in node.finalbody for p in ast.walk(row)]:
                    self.assertIsInstance(part, (ast.If, ast.Assign, ast.Compare, ast.Is, ast.Name, ast.Attribute,
                                                 ast.Constant, ast.expr_context), path.name)

    def test_stars_in_calls_stand_over_names(self):
        for path, tree in TREES.items():
            for node in [n for n in ast.walk(tree) if isinstance(n, ast.Call)]:
                for part in node.args:
                    if isinstance(part, ast.Starred):
                        self.assertIsInstance(part.value, (ast.Name, ast.Attribute), f"{path.name}:{node.lineno}")


class OperatorTest(unittest.TestCase):
    """What operators run changes nothing but lists and dicts that the running function made."""

    def reached(self):
        functions, classes = {}, {}
        for tree in TREES.values():
            for node in tree.body:
                if isinstance(node, ast.FunctionDef):
                    functions.setdefault(node.name, []).append(node)
                if isinstance(node, ast.ClassDef):
                    classes[node.name] = node
                    for item in node.body:
                        if isinstance(item, ast.FunctionDef):
                            functions.setdefault(item.name, []).append(item)
        work = [f for c in classes.values() for f in c.body
                if isinstance(f, ast.FunctionDef) and f.name in OPERATORS]
        seen = []
        while work:
            node = work.pop()
            if node in seen:
                continue
            seen.append(node)
            for call in [n for n in ast.walk(node) if isinstance(n, ast.Call)]:
                name = call.func.id if isinstance(call.func, ast.Name) else call.func.attr
                if name in classes:
                    work.extend(f for f in classes[name].body
                                if isinstance(f, ast.FunctionDef) and f.name == "__init__")
                elif name in functions and name not in METHODS:
                    work.extend(functions[name])
        return seen

    def made_here(self, node):
        made = set()
        for item in ast.walk(node):
            if isinstance(item, ast.Assign) and isinstance(item.targets[0], ast.Name):
                value = item.value
                called = isinstance(value, ast.Call) and isinstance(value.func, ast.Name)
                if isinstance(value, (ast.List, ast.Dict, ast.ListComp)) or (
                        called and value.func.id in ("list", "dict", "sorted")):
                    made.add(item.targets[0].id)
        return made

    def test_operators_change_nothing(self):
        reached = self.reached()
        self.assertIn("state_classes", [node.name for node in reached])
        for node in reached:
            made = self.made_here(node)
            given = {a.arg for a in node.args.args}
            for item in ast.walk(node):
                with self.subTest(function=node.name, line=getattr(item, "lineno", 0)):
                    if isinstance(item, ast.Subscript) and not isinstance(item.ctx, ast.Load):
                        self.assertIsInstance(item.value, ast.Name)
                        self.assertIn(item.value.id, made)
                    if isinstance(item, ast.Attribute) and isinstance(item.ctx, ast.Store):
                        self.assertEqual(node.name, "__init__")
                        self.assertEqual(item.value.id, "self")
                    if isinstance(item, ast.Call) and isinstance(item.func, ast.Attribute):
                        if item.func.attr in CHANGING:
                            self.assertIsInstance(item.func.value, ast.Name)
                            self.assertIn(item.func.value.id, made)
                    if isinstance(item, ast.Call) and isinstance(item.func, ast.Name):
                        self.assertNotIn(item.func.id, given, "calls what it is passed")
                    if isinstance(item, ast.AugAssign):
                        self.assertIsInstance(item.target, ast.Name)
                        self.assertIsInstance(item.value, ast.Constant)
                    self.assertNotIsInstance(item, (ast.Nonlocal, ast.Delete, ast.Yield))


if __name__ == "__main__":
    unittest.main()
