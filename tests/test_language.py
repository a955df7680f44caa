"""Checks those of the language's rules that can be seen in the files one by one."""

import ast
import builtins
import os
import unittest

PACKAGE = os.path.join(os.path.dirname(os.path.dirname(os.path.abspath(__file__))), "lastpairs")

# A doctest leaves a name of its own among these.
BUILT_IN = sorted(set(dir(builtins)) - {"_"})
BUILTINS = set(
    "len range enumerate zip min max sum abs sorted reversed int str bool bytes list tuple dict set isinstance ord"
    " repr any all divmod ValueError KeyError map".split()
)
METHODS = set(
    "append clear copy count endswith extend find get index insert isalnum isalpha isdigit islower isspace isupper"
    " items join keys ljust lower lstrip partition pop remove replace reverse rfind rjust rpartition rsplit rstrip"
    " setdefault split splitlines startswith strip update upper values zfill bit_length add discard".split()
)
NOT_ATTRIBUTES = set(
    "items keys values pop update append clear extend insert remove reverse setdefault sort args encode decode hex"
    " fromhex format format_map mro as_integer_ratio bit_count conjugate from_bytes is_integer to_bytes".split()
)
NOT_NAMES = set(
    "register mro elements open input law version_info with_traceback add_note attrgetter breakpoint builtins compile"
    " copyright credits delattr dir eval exec exit gc getattr globals hasattr help id importlib license locals"
    " methodcaller os quit setattr super type vars sys".split()
)
NOT_WORDS = set(
    "type typing typing_extensions enum Enum IntEnum StrEnum Flag IntFlag Generic Protocol ABC ABCMeta namedtuple"
    " NamedTuple TypedDict TYPE_CHECKING abstractmethod dataclass overload contextmanager".split()
)
NOT_NODES = (
    ast.GeneratorExp, ast.Yield, ast.YieldFrom, ast.Global, ast.AsyncFunctionDef, ast.Await, ast.JoinedStr,
    ast.NamedExpr, ast.With, ast.Match, ast.AnnAssign, ast.Div, ast.MatMult, ast.Mod, ast.Pow, ast.Nonlocal, ast.Set,
    ast.Import, ast.Starred,
)
ITERATED = ("zip", "enumerate", "reversed", "range", "map", "combinations")
ITERATING = ("list", "tuple", "dict", "sorted", "sum", "any", "all", "enumerate", "zip", "min", "max", "join")
LIBRARY = {"itertools": ["combinations"], "math": ["comb"]}


def files():
    return sorted(name for name in os.listdir(PACKAGE) if name != "__pycache__")


def text_of(name):
    with open(os.path.join(PACKAGE, name), "rb") as opened:
        return opened.read().decode("utf-8")


def defined_in(tree):
    names = []
    for node in tree.body:
        if isinstance(node, (ast.FunctionDef, ast.ClassDef)):
            names.append(node.name)
        elif isinstance(node, ast.Assign):
            names.extend(target.id for target in node.targets)
    return names


def imports_of(tree):
    return [node for node in tree.body if isinstance(node, ast.ImportFrom)]


class LanguageTest(unittest.TestCase):
    @classmethod
    def setUpClass(cls):
        cls.trees = {name: ast.parse(text_of(name)) for name in files()}
        for tree in cls.trees.values():
            for node in ast.walk(tree):
                for child in ast.iter_child_nodes(node):
                    child.above = node
        cls.defined = {name: defined_in(tree) for name, tree in cls.trees.items()}
        cls.attributes = set()
        cls.methods = set()
        for tree in cls.trees.values():
            for node in ast.walk(tree):
                if isinstance(node, ast.Attribute) and isinstance(node.ctx, ast.Store):
                    cls.attributes.add(node.attr)
                if isinstance(node, ast.ClassDef):
                    cls.methods.update(part.name for part in node.body if isinstance(part, ast.FunctionDef))

    def nodes(self):
        for name, tree in self.trees.items():
            for node in ast.walk(tree):
                yield f"{name}:{getattr(node, 'lineno', 0)}", node

    def test_files(self):
        for name in files():
            self.assertRegex(name, r"\A(__init__|[a-z][a-z0-9_]*)\.py\Z")
            self.assertNotIn(name[:-3], BUILT_IN)
        self.assertLessEqual(len(files()), 100)

    def test_lines(self):
        for name in files():
            text = text_of(name)
            self.assertTrue(all(" " <= sign <= "~" or sign == "\n" for sign in text), name)
            lines = text.split("\n")
            self.assertLessEqual(len(lines), 399, name)
            self.assertLessEqual(max(map(len, lines)), 120, name)

    def test_functions_are_short(self):
        for where, node in self.nodes():
            if isinstance(node, ast.FunctionDef):
                self.assertLessEqual(node.end_lineno - node.lineno + 1, 40, where)
                self.assertEqual(node.decorator_list, [], where)
                self.assertIsNone(node.returns, where)
                self.assertIsNone(node.args.vararg, where)
                self.assertIsNone(node.args.kwarg, where)
                self.assertIsInstance(node.above, (ast.Module, ast.ClassDef), where)

    def test_nodes(self):
        for where, node in self.nodes():
            self.assertNotIsInstance(node, NOT_NODES, where)
            if isinstance(node, ast.Constant):
                self.assertNotIsInstance(node.value, (float, bytes, complex), where)
                if isinstance(node.value, str):
                    self.assertNotIn("%", node.value, where)

    def test_module_level(self):
        for name, tree in self.trees.items():
            kinds = []
            for node in tree.body:
                self.assertIsInstance(node, (ast.Expr, ast.ImportFrom, ast.FunctionDef, ast.ClassDef, ast.Assign), name)
                kinds.append(isinstance(node, ast.ImportFrom) or isinstance(node, ast.Expr))
            self.assertEqual(kinds, sorted(kinds, reverse=True), name)
            self.assertIsNotNone(ast.get_docstring(tree), name)
            self.assertEqual(len(self.defined[name]), len(set(self.defined[name])), name)

    def test_imports(self):
        for name, tree in self.trees.items():
            for node in imports_of(tree):
                self.assertEqual(node.level, 0, name)
                head, _, tail = node.module.partition(".")
                self.assertIn(head, ["lastpairs", *LIBRARY], name)
                for alias in node.names:
                    self.assertIsNone(alias.asname, name)
                    self.assertIn(alias.name, LIBRARY[head] if head in LIBRARY else self.defined[tail + ".py"], name)

    def test_the_library_is_only_called(self):
        """By bare names, all by position, and how many to choose by a parameter that is assigned nothing else."""
        words = [word for known in LIBRARY.values() for word in known]
        for where, node in self.nodes():
            if isinstance(node, ast.Name) and node.id in words:
                self.assertIsInstance(node.above, ast.Call, where)
                self.assertIs(node.above.func, node, where)
                self.assertEqual(node.above.keywords, [], where)
                self.assertFalse(self.function_around(node) is None, where)
                if node.id == "combinations":
                    function, many = self.function_around(node), node.above.args[1].id
                    self.assertIn(many, [arg.arg for arg in function.args.args], where)
                    assigned = [
                        part for part in ast.walk(function)
                        if isinstance(part, ast.Name) and part.id == many and isinstance(part.ctx, ast.Store)
                    ]
                    self.assertEqual(assigned, [], where)

    def function_around(self, node):
        while node is not None and not isinstance(node, ast.FunctionDef):
            node = getattr(node, "above", None)
        return node

    def test_imports_are_used(self):
        for name, tree in self.trees.items():
            used = {node.id for node in ast.walk(tree) if isinstance(node, ast.Name)}
            for node in imports_of(tree):
                for alias in node.names:
                    self.assertIn(alias.name, used, name)

    def test_private_functions_are_used(self):
        for name, tree in self.trees.items():
            used = {node.id for node in ast.walk(tree) if isinstance(node, ast.Name)}
            for known in self.defined[name]:
                if known.startswith("_"):
                    self.assertIn(known, used, name)

    def test_no_circles_of_imports(self):
        needs = {
            name: {node.module.partition(".")[2] + ".py" for node in imports_of(tree) if node.module not in LIBRARY}
            for name, tree in self.trees.items()
        }
        while needs:
            free = [name for name in needs if not needs[name] & set(needs)]
            self.assertTrue(free, sorted(needs))
            for name in free:
                del needs[name]

    def test_names(self):
        for name, tree in self.trees.items():
            outer = {alias.name for node in imports_of(tree) for alias in node.names}
            outer.update(node.name for node in tree.body if isinstance(node, ast.ClassDef))
            for node in ast.walk(tree):
                bound = []
                if isinstance(node, ast.Name) and isinstance(node.ctx, ast.Store):
                    bound = [node.id]
                elif isinstance(node, ast.arg):
                    bound = [node.arg]
                elif isinstance(node, (ast.FunctionDef, ast.ClassDef)):
                    bound = [] if isinstance(node.above, ast.ClassDef) else [node.name]
                for word in bound:
                    self.assertNotIn(word, BUILT_IN, name)
                    self.assertNotIn(word, NOT_NAMES, name)
                    if not isinstance(node, (ast.FunctionDef, ast.ClassDef)):
                        self.assertNotIn(word, outer, name)
                    self.assertFalse(word.startswith("__"), name)

    def test_words(self):
        for where, node in self.nodes():
            for field in ("id", "attr", "arg", "name"):
                word = getattr(node, field, None)
                if isinstance(word, str):
                    self.assertNotIn(word, NOT_WORDS, where)
            if isinstance(node, ast.Constant) and isinstance(node.value, str):
                if not isinstance(node.above, ast.Expr):
                    for word in NOT_WORDS:
                        self.assertNotIn(word, node.value, where)

    def test_builtins(self):
        for where, node in self.nodes():
            if isinstance(node, ast.Name) and node.id in BUILT_IN:
                self.assertIn(node.id, BUILTINS, where)

    def test_methods_and_attributes(self):
        self.assertEqual(self.attributes & NOT_ATTRIBUTES, set())
        self.assertEqual(self.attributes & self.methods, set())
        for where, node in self.nodes():
            if isinstance(node, ast.Attribute):
                if isinstance(node.above, ast.Call) and node.above.func is node:
                    self.assertIn(node.attr, METHODS | self.methods, where)
                else:
                    self.assertIn(node.attr, self.attributes, where)

    def test_what_is_iterated_at_once(self):
        for where, node in self.nodes():
            if isinstance(node, ast.Call):
                called = getattr(node.func, "id", getattr(node.func, "attr", ""))
                if called in ITERATED + ("items", "values", "keys"):
                    self.assertTrue(self.is_iterated(node), where)

    def is_iterated(self, node):
        above = node.above
        if isinstance(above, (ast.For, ast.comprehension)):
            return above.iter is node
        if isinstance(above, ast.Call):
            called = getattr(above.func, "id", getattr(above.func, "attr", ""))
            # What combinations are of may be a range.
            return called in ITERATING or (called, getattr(node.func, "id", "")) == ("combinations", "range")
        # A range may be kept.
        return isinstance(above, ast.Assign) and node.func.id == "range"

    def test_sets(self):
        for where, node in self.nodes():
            made = isinstance(node, ast.Call) and getattr(node.func, "id", "") == "set"
            if made or isinstance(node, ast.SetComp):
                above = node.above
                if isinstance(above, ast.Call):
                    self.assertIn(above.func.id, ("len", "sorted"), where)
                else:
                    self.assertIsInstance(above, ast.Compare, where)

    def test_is(self):
        for where, node in self.nodes():
            if isinstance(node, ast.Compare) and isinstance(node.ops[0], (ast.Is, ast.IsNot)):
                self.assertIsInstance(node.comparators[0], ast.Constant, where)

    def test_errors(self):
        known = self.defined["errors.py"]
        for where, node in self.nodes():
            if isinstance(node, ast.Raise):
                self.assertIn(node.exc.func.id, known, where)
            if isinstance(node, ast.ExceptHandler):
                self.assertIn(node.type.id, known, where)


if __name__ == "__main__":
    unittest.main()
