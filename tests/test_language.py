"""What can be seen of the rules in LANGUAGE.md (L1 to L28) by looking at the files of the package."""

import ast
import builtins
import os
import re
import unittest
import warnings

HERE = os.path.dirname(os.path.dirname(os.path.abspath(__file__)))
PACKAGE = os.path.join(HERE, "spelledways")

BUILTINS = set("""len range enumerate zip min max sum abs sorted reversed int str bool list tuple dict set isinstance ord
    repr any all divmod pow getattr hasattr setattr iter next map Exception ValueError TypeError KeyError IndexError
    LookupError ZeroDivisionError ArithmeticError OverflowError RuntimeError NotImplementedError AttributeError
    StopIteration NotImplemented""".split())
METHODS = set("""append clear copy count endswith extend find get index insert isalnum isalpha isdigit islower isspace
    isupper items join keys ljust lower lstrip partition pop remove replace reverse rfind rjust rpartition rsplit rstrip
    setdefault split splitlines startswith strip update upper values zfill bit_length title capitalize swapcase casefold
    center expandtabs removeprefix removesuffix rindex isascii isdecimal isnumeric istitle isidentifier isprintable
    """.split())
OTHER_METHODS = {name for kind in (str, int, list, dict, set, bytes, tuple) for name in dir(kind)} - METHODS
DUNDERS = {"__init__", "__eq__", "__repr__", "__str__", "__len__", "__contains__"}
BARRED = set("""register mro elements open input law version_info with_traceback add_note attrgetter breakpoint builtins
    compile copyright credits delattr dir eval exec exit gc globals help id importlib license locals methodcaller os quit
    super type vars sys""".split())
WORDS = set("""type typing typing_extensions enum Enum IntEnum StrEnum Flag IntFlag Generic Protocol ABC ABCMeta namedtuple
    NamedTuple TypedDict TYPE_CHECKING abstractmethod""".split())
STATEMENTS = (ast.Assign, ast.AugAssign, ast.If, ast.While, ast.For, ast.Return, ast.Break, ast.Continue, ast.Pass, ast.Raise,
              ast.Assert, ast.Delete, ast.Try, ast.Expr, ast.FunctionDef, ast.ClassDef, ast.ImportFrom)
AT_ONCE = {"zip", "enumerate", "reversed", "range", "map"}
VIEWS = {"items", "keys", "values"}
TAKERS = {"list", "tuple", "dict", "sorted", "sum", "any", "all", "enumerate", "zip", "min", "max"}


# A doctest that runs ahead of these leaves a name "_" among the builtins.
TAKEN = {name for name in dir(builtins) if not name.startswith("_")}


def files():
    return sorted(name for name in os.listdir(PACKAGE) if name != "__pycache__")


def text_of(name):
    with open(os.path.join(PACKAGE, name), encoding="utf-8") as held:
        return held.read()


def parents_in(tree):
    return {child: node for node in ast.walk(tree) for child in ast.iter_child_nodes(node)}


def call_name(node):
    return node.func.id if isinstance(node, ast.Call) and isinstance(node.func, ast.Name) else None


def is_view(node):
    return isinstance(node, ast.Call) and isinstance(node.func, ast.Attribute) and node.func.attr in VIEWS


class LanguageTest(unittest.TestCase):
    @classmethod
    def setUpClass(cls):
        cls.texts = {name: text_of(name) for name in files()}
        with warnings.catch_warnings():
            warnings.simplefilter("error")
            cls.trees = {name: ast.parse(text) for name, text in cls.texts.items()}

    def nodes(self, *kinds):
        for name, tree in self.trees.items():
            for node in ast.walk(tree):
                if isinstance(node, kinds):
                    yield name, node

    def classes(self):
        return {node.name for _, node in self.nodes(ast.ClassDef)}

    def own_methods(self):
        return {part.name for _, node in self.nodes(ast.ClassDef) for part in node.body if isinstance(part, ast.FunctionDef)}

    def test_l1_l10_l14_files_and_characters(self):
        for name, text in self.texts.items():
            self.assertRegex(name, r"^[a-z_][a-z0-9_]*\.py$")
            self.assertNotIn(name[:-3], TAKEN)
            self.assertEqual([sign for sign in text if sign != "\n" and not " " <= sign <= "~"], [], name)
            rows = text.split("\n")
            self.assertLessEqual(len(rows), 399, name)
            self.assertLessEqual(max(map(len, rows)), 120, name)
        for name, node in self.nodes(ast.FunctionDef):
            self.assertLessEqual(node.end_lineno - node.lineno + 1, 40, (name, node.name))

    def test_l2_l16_imports(self):
        edges = {}
        for name, tree in self.trees.items():
            edges[name] = []
            for node in ast.walk(tree):
                self.assertNotIsInstance(node, ast.Import, name)
                if isinstance(node, ast.ImportFrom):
                    self.assertIn(node, tree.body)
                    self.assertEqual(node.level, 0)
                    self.assertRegex(node.module, r"^spelledways\.[a-z_]+$")
                    source = node.module.partition(".")[2] + ".py"
                    edges[name].append(source)
                    defined = {part.name for part in self.trees[source].body if hasattr(part, "name")}
                    defined |= {to.id for part in self.trees[source].body if isinstance(part, ast.Assign) for to in part.targets}
                    for one in node.names:
                        self.assertIn(one.name, defined, (name, one.name))
                        self.assertIsNone(one.asname)
                        self.assertGreater(len(re.findall(r"\b" + one.name + r"\b", self.texts[name])), 1, (name, one.name))
        left = dict(edges)
        while left:
            free = [name for name in left if not any(to in left for to in left[name])]
            self.assertTrue(free, f"files import from each other: {sorted(left)}")
            left = {name: left[name] for name in left if name not in free}

    def test_l3_module_level(self):
        for name, tree in self.trees.items():
            bound = []
            for at, node in enumerate(tree.body):
                if isinstance(node, ast.ImportFrom):
                    bound += [one.name for one in node.names]
                elif isinstance(node, (ast.FunctionDef, ast.ClassDef)):
                    bound.append(node.name)
                elif isinstance(node, ast.Assign):
                    self.assertIsInstance(node.targets[0], ast.Name)
                    self.assertEqual(len(node.targets), 1)
                    bound.append(node.targets[0].id)
                    calls = [part for part in ast.walk(node) if isinstance(part, (ast.Call, ast.Set, ast.ListComp))]
                    self.assertEqual(calls, [])
                else:
                    self.assertTrue(at == 0 and isinstance(node.value, ast.Constant), (name, ast.dump(node)))
            self.assertEqual(len(bound), len(set(bound)), name)
            self.assertEqual(sorted(set(bound) & TAKEN), [], name)

    def test_l4_l5_functions_and_classes(self):
        for name, node in self.nodes(ast.FunctionDef, ast.ClassDef):
            self.assertEqual(node.decorator_list, [])
            if isinstance(node, ast.FunctionDef) and node.name.startswith("__"):
                self.assertIn(node.name, DUNDERS)
            if isinstance(node, ast.FunctionDef):
                self.assertIsNone(node.returns)
                if node.name == "__len__":
                    for part in ast.walk(node):
                        if isinstance(part, ast.Return):
                            self.assertEqual(call_name(part.value), "len")
        for name, node in self.nodes(ast.ClassDef):
            methods = [part.name for part in node.body if isinstance(part, ast.FunctionDef)]
            self.assertEqual(len(methods), len(set(methods)))
            for part in node.body:
                self.assertIsInstance(part, (ast.FunctionDef, ast.Expr))
            mine = {part.attr for part in ast.walk(node) if isinstance(part, ast.Attribute) and isinstance(part.ctx, ast.Store)}
            self.assertEqual(mine & set(methods), set(), name)

    def test_l6_statements(self):
        for name, node in self.nodes(ast.stmt):
            self.assertIsInstance(node, STATEMENTS, (name, node.lineno))
        for name, node in self.nodes(ast.Expr):
            if not isinstance(node.value, ast.Call):
                self.assertIsInstance(node.value, ast.Constant, (name, node.lineno))

    def test_l7_l8_expressions_and_builtins(self):
        for name, node in self.nodes(ast.expr):
            self.assertNotIsInstance(node, (ast.GeneratorExp, ast.NamedExpr, ast.Await, ast.Yield, ast.YieldFrom, ast.Lambda))
            if isinstance(node, ast.Constant):
                self.assertNotIsInstance(node.value, (float, complex, bytes))
            if isinstance(node, ast.BinOp):
                self.assertNotIsInstance(node.op, (ast.Div, ast.MatMult, ast.Pow))
            if isinstance(node, ast.Name) and node.id in TAKEN:
                self.assertIn(node.id, BUILTINS, (name, node.lineno))
                self.assertIsInstance(node.ctx, ast.Load)
            if isinstance(node, ast.FormattedValue):
                inside = [part.value for part in ast.walk(node) if isinstance(part, ast.Constant)]
                self.assertFalse([part for part in inside if not isinstance(part, int)], (name, node.lineno))

    def test_l8_l12_l15_l17_names(self):
        for name, tree in self.trees.items():
            taken = {one.name for node in tree.body if isinstance(node, ast.ImportFrom) for one in node.names}
            taken |= {node.name for node in tree.body if isinstance(node, ast.ClassDef)}
            for node in ast.walk(tree):
                local = None
                if isinstance(node, ast.arg):
                    local = node.arg
                elif isinstance(node, ast.Name) and isinstance(node.ctx, ast.Store):
                    local = node.id
                elif isinstance(node, ast.ExceptHandler):
                    local = node.name
                if local is not None:
                    self.assertNotIn(local, taken, name)
                    self.assertNotIn(local, BARRED)
                    self.assertNotIn(local, TAKEN, name)
                    self.assertRegex(local, r"^(_|_?[A-Za-z][A-Za-z0-9_]*)$")
                if isinstance(node, ast.FunctionDef) and not node.name.startswith("__"):
                    self.assertNotIn(node.name, BARRED)
                    self.assertNotIn(node.name, OTHER_METHODS - {"add", "discard"})
                if isinstance(node, ast.Attribute):
                    self.assertFalse(node.attr.startswith("__"))
                    self.assertNotIn(node.attr, {"format", "format_map", "mro", "args", "sort"})
                if isinstance(node, ast.Name) and node.id == "_":
                    self.assertIsInstance(node.ctx, ast.Store, name)
            rows = [re.sub(r"#.*", "", row) for row in self.texts[name].split("\n")]
            for docs in [ast.get_docstring(node, clean=False) for node in ast.walk(tree)
                         if isinstance(node, (ast.Module, ast.FunctionDef, ast.ClassDef))]:
                rows = "\n".join(rows).replace(docs or "\n\n\n\n\n", "").split("\n")
            self.assertEqual(WORDS & set(re.findall(r"\w+", "\n".join(rows))), set(), name)

    def test_l19_errors(self):
        own = {node.name for name, node in self.nodes(ast.ClassDef) if name == "errors.py"}
        for name, node in self.nodes(ast.ExceptHandler):
            self.assertIn(node.type.id, own | {"KeyError"}, name)
        for name, node in self.nodes(ast.Raise):
            self.assertIn(call_name(node.exc), own)
            self.assertEqual(node.exc.keywords, [])

    def test_l20_is(self):
        for name, node in self.nodes(ast.Compare):
            for op, side in zip(node.ops, node.comparators):
                if isinstance(op, (ast.Is, ast.IsNot)):
                    self.assertIsInstance(side, ast.Constant, name)

    def test_l22_builtins_are_called(self):
        for name, tree in self.trees.items():
            parents = parents_in(tree)
            for node in ast.walk(tree):
                if isinstance(node, ast.Name) and node.id in TAKEN and node.id not in ("Exception", "KeyError"):
                    parent = parents[node]
                    if isinstance(parent, ast.Tuple):
                        parent = parents[parent]
                    fit = isinstance(parent, ast.Call) and (parent.func is node or call_name(parent) == "isinstance")
                    self.assertTrue(fit, (name, node.lineno, node.id))
                if isinstance(node, ast.Call) and call_name(node) in BUILTINS:
                    self.assertLessEqual({word.arg for word in node.keywords}, {"key", "reverse", "default", "start", "strict"})
                if isinstance(node, ast.Call):
                    self.assertFalse([part for part in node.args if isinstance(part, ast.Starred)])

    def test_l23_iterated_at_once(self):
        for name, tree in self.trees.items():
            parents = parents_in(tree)
            for node in ast.walk(tree):
                if call_name(node) in AT_ONCE or is_view(node):
                    parent = parents[node]
                    fit = isinstance(parent, (ast.For, ast.comprehension)) and parent.iter is node
                    fit = fit or call_name(parent) in TAKERS
                    fit = fit or (call_name(parent) == "reversed" and call_name(node) == "range")
                    self.assertTrue(fit, (name, node.lineno))

    def test_l23_what_is_iterated_is_not_changed(self):
        for name, node in self.nodes(ast.For):
            over = {ast.unparse(part) for part in ast.walk(node.iter) if isinstance(part, (ast.Name, ast.Attribute))}
            for part in ast.walk(ast.Module(node.body, [])):
                if isinstance(part, ast.Call) and isinstance(part.func, ast.Attribute) and part.func.attr in METHODS:
                    if part.func.attr in {"append", "extend", "pop", "insert", "remove", "clear", "update", "setdefault"}:
                        self.assertNotIn(ast.unparse(part.func.value), over, (name, part.lineno))
                if isinstance(part, ast.Subscript) and isinstance(part.ctx, (ast.Store, ast.Del)):
                    self.assertNotIn(ast.unparse(part.value), over, (name, part.lineno))

    def test_l24_sets(self):
        for name, tree in self.trees.items():
            parents = parents_in(tree)
            for node in ast.walk(tree):
                if isinstance(node, (ast.Set, ast.SetComp)) or call_name(node) == "set":
                    self.assertIn(call_name(parents[node]), {"sorted", "len"}, (name, node.lineno))
                    self.assertEqual(parents[node].keywords, [])
                    if call_name(node) == "set":
                        self.assertFalse(node.args and is_view(node.args[0]))

    def test_l25_methods(self):
        known = METHODS | self.own_methods()
        for name, node in self.nodes(ast.Call):
            if isinstance(node.func, ast.Attribute):
                self.assertIn(node.func.attr, known, (name, node.lineno))
                if node.func.attr in METHODS:
                    self.assertEqual(node.keywords, [])
        for name, tree in self.trees.items():
            parents = parents_in(tree)
            for node in ast.walk(tree):
                if isinstance(node, ast.Attribute) and node.attr in known:
                    self.assertTrue(isinstance(parents[node], ast.Call) and parents[node].func is node, (name, node.lineno))

    def test_l27_strings_and_numbers(self):
        for name, node in self.nodes(ast.Constant):
            if isinstance(node.value, str):
                self.assertNotIn("%", node.value, name)
                self.assertFalse(node.value.endswith(("._", ".__")))
                self.assertFalse(len(node.value) > 3 and node.value.startswith("__") and node.value.endswith("__"))
        for name, text in self.texts.items():
            self.assertNotRegex(text, r"\\[^n]")

    def test_docstrings(self):
        for name, node in self.nodes(ast.Module, ast.ClassDef, ast.FunctionDef):
            word = getattr(node, "name", name)
            if not word.startswith("_") or word == "__init__.py":
                self.assertTrue(ast.get_docstring(node), (name, word))


if __name__ == "__main__":
    unittest.main()
