"""The part of Python that the package keeps to, as far as its rules can be seen from the source."""

import ast
import builtins
import pathlib
import re
import unittest

PACKAGE = pathlib.Path(__file__).resolve().parent.parent / "measurekinds"
FILES = sorted(path for path in PACKAGE.rglob("*") if "__pycache__" not in path.parts)

STATEMENTS = (ast.Assign, ast.AugAssign, ast.If, ast.While, ast.For, ast.Return, ast.Break, ast.Continue, ast.Pass,
              ast.Raise, ast.Try, ast.Expr, ast.FunctionDef, ast.ClassDef, ast.ImportFrom)
EXPRESSIONS = (ast.Constant, ast.List, ast.Tuple, ast.Dict, ast.BinOp, ast.UnaryOp, ast.Compare, ast.BoolOp, ast.IfExp,
               ast.Call, ast.Attribute, ast.Subscript, ast.Slice, ast.ListComp, ast.JoinedStr, ast.FormattedValue,
               ast.Name, ast.Lambda)
BUILT_IN = """len range enumerate zip min max sum abs sorted reversed int str bool list tuple dict set frozenset
    isinstance ord repr any all divmod Exception ValueError TypeError KeyError IndexError LookupError ZeroDivisionError
    ArithmeticError OverflowError RuntimeError NotImplementedError AttributeError StopIteration""".split()
METHODS = """append clear copy count endswith extend find get index insert isalnum isalpha isdigit islower isspace
    isupper items join keys ljust lower lstrip partition pop remove replace reverse rfind rjust rpartition rsplit
    rstrip setdefault split splitlines startswith strip update upper values zfill bit_length""".split()
NEVER_NAMES = """register mro elements open input version_info with_traceback add_note attrgetter breakpoint builtins
    compile copyright credits delattr dir eval exec exit gc getattr globals hasattr help id importlib license locals
    methodcaller os quit setattr super type vars sys chr format""".split()
NEVER_WORDS = """type typing typing_extensions enum Enum IntEnum StrEnum Flag IntFlag Generic Protocol ABC ABCMeta
    namedtuple NamedTuple TypedDict TYPE_CHECKING abstractmethod""".split()
WALKED = ("zip", "enumerate", "reversed", "range", "items", "keys", "values")
WALKERS = ("list", "tuple", "dict", "sorted", "sum", "any", "all", "enumerate", "zip", "min", "max", "join")
OWN_NAMES = set(dir(builtins))


def called(node):
    """The name of what is called, of a function or of a method."""
    if not isinstance(node, ast.Call):
        return None
    return node.func.id if isinstance(node.func, ast.Name) else getattr(node.func, "attr", None)


def imported(tree):
    return [(node.module, alias.name) for node in tree.body if isinstance(node, ast.ImportFrom) for alias in node.names]


def top_names(tree):
    found = [name for unused, name in imported(tree)]
    for node in tree.body:
        if isinstance(node, (ast.FunctionDef, ast.ClassDef)):
            found.append(node.name)
        if isinstance(node, ast.Assign):
            found.append(node.targets[0].id)
    return found


def bound_names(function):
    found = [argument.arg for argument in function.args.args]
    for node in ast.walk(function):
        if isinstance(node, ast.Name) and isinstance(node.ctx, ast.Store):
            found.append(node.id)
        if isinstance(node, ast.ExceptHandler) and node.name:
            found.append(node.name)
    return found


class Language(unittest.TestCase):
    def setUp(self):
        self.sources = {path: path.read_text(encoding="utf-8") for path in FILES if path.suffix == ".py"}
        self.trees = {path: ast.parse(source) for path, source in self.sources.items()}

    def each_node(self, *sorts):
        for path, tree in self.trees.items():
            for node in ast.walk(tree):
                if isinstance(node, sorts):
                    yield f"{path.name}:{getattr(node, 'lineno', 0)}", node

    def test_files(self):
        self.assertIn(PACKAGE / "__init__.py", FILES)
        self.assertIn(PACKAGE / "kinds.py", FILES)
        for path in FILES:
            self.assertRegex(path.name, r"^([a-z][a-z0-9_]*|__init__)\.py$")
            self.assertNotIn(path.stem, OWN_NAMES | set(NEVER_WORDS))

    def test_lines_and_signs(self):
        for path, source in self.sources.items():
            self.assertRegex(source, r"\A[ -~\n]*\Z", path)
            self.assertLessEqual(source.count("\n"), 400, path)
            self.assertLessEqual(max(map(len, source.split("\n"))), 120, path)
            words = set(re.findall(r"\w+", source))
            self.assertFalse(words & set(NEVER_WORDS), path)
            self.assertNotRegex(source, "dataclass|overload|contextmanager")

    def test_tops(self):
        for path, tree in self.trees.items():
            self.assertTrue(ast.get_docstring(tree), path)
            for node in tree.body[1:]:
                self.assertIsInstance(node, (ast.ImportFrom, ast.FunctionDef, ast.ClassDef, ast.Assign), path)
            names = top_names(tree)
            self.assertEqual(len(names), len(set(names)), path)
            self.assertFalse(set(names) & OWN_NAMES, path)

    def test_imports(self):
        draws = {path.stem: imported(tree) for path, tree in self.trees.items()}
        for stem, rows in draws.items():
            for module, name in rows:
                self.assertRegex(module, r"^measurekinds\.[a-z]+$", stem)
                tree = self.trees[PACKAGE / (module.partition(".")[2] + ".py")]
                self.assertIn(name, set(top_names(tree)) - {name for unused, name in imported(tree)}, stem)
                used = [node for node in ast.walk(self.trees[PACKAGE / f"{stem}.py"])
                        if isinstance(node, ast.Name) and node.id == name]
                self.assertTrue(used, f"{stem} imports {name} and does not use it")
        settled = set()
        while len(settled) < len(draws):
            ready = [stem for stem in draws if stem not in settled
                     and all(module.partition(".")[2] in settled for module, unused in draws[stem])]
            self.assertTrue(ready, "files draw from one another")
            settled.update(ready)

    def test_functions_and_classes(self):
        for where, node in self.each_node(ast.FunctionDef):
            self.assertLessEqual(node.end_lineno - node.lineno + 1, 40, where)
            self.assertFalse(node.decorator_list or node.returns, where)
            rest = node.args
            self.assertFalse(rest.vararg or rest.kwarg or rest.kwonlyargs or rest.posonlyargs, where)
            self.assertFalse([argument for argument in rest.args if argument.annotation], where)
        for path, tree in self.trees.items():
            top = set(top_names(tree))
            for node in ast.walk(tree):
                if isinstance(node, ast.FunctionDef):
                    self.assertFalse(set(bound_names(node)) & (OWN_NAMES | top), f"{path.name}:{node.name}")
        for where, node in self.each_node(ast.ClassDef):
            self.assertLessEqual(len(node.bases), 1, where)
            self.assertFalse(node.decorator_list or node.keywords, where)
            self.assertTrue(all(isinstance(inner, ast.FunctionDef) for inner in node.body), where)

    def test_methods_and_values_have_names_of_their_own(self):
        methods = {inner.name for unused, node in self.each_node(ast.ClassDef) for inner in node.body}
        values = {node.attr for unused, node in self.each_node(ast.Attribute) if isinstance(node.ctx, ast.Store)}
        self.assertFalse(methods & values)
        self.assertFalse((methods | values) & set(METHODS))

    def test_statements(self):
        for where, node in self.each_node(ast.stmt):
            self.assertIsInstance(node, STATEMENTS, where)
            self.assertFalse(isinstance(node, (ast.While, ast.For)) and node.orelse, where)
            if isinstance(node, ast.Assign):
                self.assertEqual(len(node.targets), 1, where)
                self.assertNotIsInstance(node.targets[0], (ast.Tuple, ast.List), where)
            if isinstance(node, ast.Try):
                self.assertFalse(node.finalbody, where)
                self.assertTrue(all(isinstance(handler.type, ast.Name) for handler in node.handlers), where)
            if isinstance(node, ast.Raise):
                self.assertIsInstance(node.exc, ast.Call, where)

    def test_calls_alone_stand_by_themselves(self):
        docstrings = [tree.body[0] for tree in self.trees.values()]
        for where, node in self.each_node(ast.Expr):
            self.assertTrue(node in docstrings or isinstance(node.value, ast.Call), where)

    def test_expressions(self):
        for where, node in self.each_node(ast.expr):
            self.assertIsInstance(node, EXPRESSIONS, where)
            if isinstance(node, ast.Constant):
                self.assertIsInstance(node.value, (int, str, type(None)), where)
                self.assertNotIn("%", str(node.value), where)
            if isinstance(node, ast.BinOp):
                self.assertNotIsInstance(node.op, (ast.Div, ast.Pow, ast.MatMult), where)
            if isinstance(node, ast.ListComp):
                self.assertEqual(len(node.generators), 1, where)
                self.assertLessEqual(len(node.generators[0].ifs), 1, where)
            if isinstance(node, ast.FormattedValue):
                self.assertTrue(isinstance(node.value, ast.Name) and node.format_spec is None, where)
            if isinstance(node, ast.Compare) and any(isinstance(op, (ast.Is, ast.IsNot)) for op in node.ops):
                self.assertIn(getattr(node.comparators[0], "value", 0), (None, True, False), where)
        for path, source in self.sources.items():
            self.assertNotRegex(source, r"""\\[^nt\\'"]""", path)

    def test_names(self):
        for where, node in self.each_node(ast.Name, ast.Attribute, ast.FunctionDef, ast.ClassDef):
            name = getattr(node, "id", None) or getattr(node, "attr", None) or node.name
            self.assertRegex(name, r"^([A-Za-z][A-Za-z0-9_]*|__init__)$", where)
            self.assertNotIn(name, NEVER_NAMES, where)
            if isinstance(node, ast.Name) and name in OWN_NAMES:
                self.assertIn(name, BUILT_IN, where)

    def test_methods(self):
        own = {inner.name for unused, node in self.each_node(ast.ClassDef) for inner in node.body}
        handles = [id(node.func) for unused, node in self.each_node(ast.Call)]
        for where, node in self.each_node(ast.Attribute):
            if id(node) in handles:
                self.assertIn(node.attr, METHODS + sorted(own), where)
            else:
                self.assertNotIn(node.attr, METHODS + sorted(own), where)

    def test_walked_at_once(self):
        placed = []
        for unused, node in self.each_node(ast.For, ast.comprehension):
            placed.append(id(node.iter))
        for unused, node in self.each_node(ast.Call):
            if called(node) in WALKERS and node.args:
                placed.extend(id(argument) for argument in node.args[:1])
        for where, node in self.each_node(ast.Call):
            if called(node) in WALKED:
                self.assertIn(id(node), placed, where)

    def test_sets(self):
        placed = [id(node.args[0]) for unused, node in self.each_node(ast.Call)
                  if called(node) in ("sorted", "len") and node.args]
        for where, node in self.each_node(ast.Call):
            if called(node) in ("set", "frozenset"):
                self.assertIn(id(node), placed, where)

    def test_a_top_holds_plain_values(self):
        for path, tree in self.trees.items():
            for node in tree.body:
                if isinstance(node, ast.Assign):
                    inner = [part for part in ast.walk(node.value) if isinstance(part, ast.expr)]
                    self.assertNotIsInstance(node.value, ast.Name, path)
                    plain = (ast.Constant, ast.Tuple, ast.List, ast.Dict, ast.Name, ast.UnaryOp)
                    self.assertTrue(all(isinstance(part, plain) for part in inner), path)
                    boxes = [part for part in inner[1:] if isinstance(part, (ast.List, ast.Dict))]
                    self.assertFalse(boxes, path)


if __name__ == "__main__":
    unittest.main()
