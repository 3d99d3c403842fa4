"""The package keeps to the part of Python that the rules L1 to L28 allow, as far as a walk over its files can see.

What hangs on how a value is used (much of L15, L18, L19, L23, L24, L26) is left to the reader.
"""

import ast
import pathlib
import re
import unittest

PACKAGE = pathlib.Path(__file__).resolve().parent.parent / "purse"

FUNCTIONS = set(
    "len range enumerate zip min max sum abs sorted reversed int str bool list tuple dict set frozenset"
    " isinstance ord repr any all divmod".split()
)
PYTHON_ERRORS = set(
    "Exception ValueError TypeError KeyError IndexError LookupError ZeroDivisionError ArithmeticError"
    " OverflowError RuntimeError NotImplementedError AttributeError StopIteration".split()
)
METHODS = set(
    "append clear copy count endswith extend find get index insert isalnum isalpha isdigit islower isspace"
    " isupper items join keys ljust lower lstrip partition pop remove replace reverse rfind rjust rpartition"
    " rsplit rstrip setdefault split splitlines startswith strip update upper values zfill bit_length".split()
)
UNDERSCORED = set("__init__ __eq__ __repr__ __str__ __len__".split())
WORDS = set(
    "type typing typing_extensions enum Enum IntEnum StrEnum Flag IntFlag Generic Protocol ABC ABCMeta"
    " namedtuple NamedTuple TypedDict TYPE_CHECKING abstractmethod".split()
)
PARTS = ("dataclass", "overload", "contextmanager")
UNUSED = set(
    "register mro elements open input version_info with_traceback add_note format format_map attrgetter"
    " breakpoint builtins compile copyright credits delattr dir eval exec exit gc getattr globals hasattr help"
    " id importlib license locals methodcaller os quit setattr super vars sys chr print map filter next iter"
    " hash object property float bytes".split()
)
STATEMENTS = (
    ast.FunctionDef, ast.ClassDef, ast.ImportFrom, ast.Assign, ast.AugAssign, ast.If, ast.While, ast.For,
    ast.Return, ast.Break, ast.Continue, ast.Pass, ast.Raise, ast.Try, ast.Expr,
)
EXPRESSIONS = (
    ast.BoolOp, ast.BinOp, ast.UnaryOp, ast.Lambda, ast.IfExp, ast.Dict, ast.ListComp, ast.Compare, ast.Call,
    ast.FormattedValue, ast.JoinedStr, ast.Constant, ast.Attribute, ast.Subscript, ast.Name, ast.List,
    ast.Tuple, ast.Slice,
)
# Walked on the spot alone: the functions and the methods, and the calls in which they may stand.
WALKED = set("zip enumerate reversed range".split())
WALKED_METHODS = set("items keys values".split())
WALKERS = set("list tuple dict sorted sum any all enumerate zip min max".split())
KEYWORDS = {
    "sorted": {"key", "reverse"}, "min": {"key", "default"}, "max": {"key", "default"}, "sum": {"start"},
    "enumerate": {"start"}, "zip": {"strict"},
}
# Names of Python's own values that a value of an object may bear all the same.
VALUE_NAMES = set("count index title find get join lower upper split strip copy add".split())
TOP = (ast.FunctionDef, ast.ClassDef, ast.ImportFrom, ast.Assign)


def package_files():
    return sorted(path for path in PACKAGE.rglob("*") if path.is_file() and "__pycache__" not in path.parts)


def bound_names(tree):
    names = []
    for node in ast.walk(tree):
        if isinstance(node, (ast.FunctionDef, ast.ClassDef)):
            names.append(node.name)
        elif isinstance(node, ast.arg):
            names.append(node.arg)
        elif isinstance(node, ast.Name) and isinstance(node.ctx, ast.Store):
            names.append(node.id)
        elif isinstance(node, ast.alias):
            names.append(node.asname or node.name)
        elif isinstance(node, ast.ExceptHandler) and node.name:
            names.append(node.name)
    return names


def top_names(tree):
    names = []
    for node in tree.body:
        if isinstance(node, (ast.FunctionDef, ast.ClassDef)):
            names.append(node.name)
        elif isinstance(node, ast.ImportFrom):
            names.extend(alias.asname or alias.name for alias in node.names)
        elif isinstance(node, ast.Assign):
            names.extend(target.id for target in node.targets)
    return names


def python_names():
    return set().union(*[dir(kind) for kind in (str, int, list, tuple, dict, set, frozenset, bytes)])


def method_names(tree):
    classes = [node for node in ast.walk(tree) if isinstance(node, ast.ClassDef)]
    return [inner.name for node in classes for inner in node.body if isinstance(inner, ast.FunctionDef)]


def value_names(tree):
    nodes = [node for node in ast.walk(tree) if isinstance(node, ast.Attribute)]
    return [node.attr for node in nodes if isinstance(node.ctx, ast.Store)]


def name_of_call(node):
    return node.func.id if isinstance(node.func, ast.Name) else None


def is_walked(node):
    """Is it a call whose answer is to be walked on the spot?"""
    if not isinstance(node, ast.Call):
        return False
    if isinstance(node.func, ast.Attribute):
        return node.func.attr in WALKED_METHODS
    return name_of_call(node) in WALKED


def walked_rightly(tree):
    """What stands where such an answer may stand."""
    places = []
    for node in ast.walk(tree):
        if isinstance(node, (ast.For, ast.comprehension)):
            places.append(node.iter)
        elif isinstance(node, ast.Call) and name_of_call(node) in WALKERS:
            places.extend(node.args[:1])
    return places


def own_imports(tree):
    return [node for node in ast.walk(tree) if isinstance(node, ast.ImportFrom)]


class Language(unittest.TestCase):
    def of_each_file(self, check):
        for path in package_files():
            text = path.read_text(encoding="utf-8")
            with self.subTest(path.name):
                check(path, text, ast.parse(text))

    def test_files(self):
        self.assertIn(PACKAGE / "__init__.py", package_files())
        for path in package_files():
            with self.subTest(path.name):
                self.assertRegex(path.name, r"\A[a-z0-9_]+\.py\Z")
                self.assertNotIn(path.stem, FUNCTIONS | UNUSED | WORDS | {"site", "conftest", "testing"})
                self.assertFalse(path.stem.startswith("test"))

    def test_signs_and_size(self):
        def check(path, text, tree):
            self.assertRegex(text, r"\A[\n -~]*\Z")
            lines = text.split("\n")
            self.assertLessEqual(len(lines), 400)
            self.assertLessEqual(max(len(line) for line in lines), 120)
            for node in ast.walk(tree):
                if isinstance(node, ast.FunctionDef):
                    self.assertLessEqual(node.end_lineno - node.lineno + 1, 40, node.name)

        self.of_each_file(check)

    def test_words(self):
        def check(path, text, tree):
            self.assertEqual(sorted(set(re.findall(r"\w+", text)) & WORDS), [])
            self.assertEqual([part for part in PARTS if part in text], [])

        self.of_each_file(check)

    def test_top(self):
        def check(path, text, tree):
            self.assertIsNotNone(ast.get_docstring(tree))
            for node in tree.body[1:]:
                self.assertIsInstance(node, TOP, ast.dump(node))
                if isinstance(node, ast.Assign):
                    ast.literal_eval(node.value)
            names = top_names(tree)
            self.assertEqual(len(names), len(set(names)))

        self.of_each_file(check)

    def test_statements(self):
        def check(path, text, tree):
            for node in ast.walk(tree):
                if isinstance(node, ast.stmt):
                    self.assertIsInstance(node, STATEMENTS, ast.dump(node))
                if isinstance(node, ast.Expr) and node is not tree.body[0]:
                    self.assertIsInstance(node.value, ast.Call)
                if isinstance(node, (ast.For, ast.While)):
                    self.assertEqual(node.orelse, [])
                if isinstance(node, ast.Try):
                    self.assertEqual(node.finalbody, [])
                if isinstance(node, ast.Assign):
                    self.assertEqual(len(node.targets), 1)
                    self.assertNotIsInstance(node.targets[0], (ast.Tuple, ast.List))
                if isinstance(node, ast.ExceptHandler):
                    self.assertIsNotNone(node.type)

        self.of_each_file(check)

    def test_expressions(self):
        def check(path, text, tree):
            for node in ast.walk(tree):
                if isinstance(node, ast.expr):
                    self.assertIsInstance(node, EXPRESSIONS, ast.dump(node))
                if isinstance(node, ast.Constant):
                    self.assertIsInstance(node.value, (int, str, type(None)))
                if isinstance(node, ast.Constant) and isinstance(node.value, str):
                    self.assertNotIn("%", node.value)
                if isinstance(node, (ast.BinOp, ast.AugAssign)):
                    self.assertNotIsInstance(node.op, (ast.Div, ast.MatMult))
                    if isinstance(node.op, ast.Pow):
                        power = node.right if isinstance(node, ast.BinOp) else node.value
                        self.assertIsInstance(power, ast.Constant)
                        self.assertIn(power.value, range(65))
                if isinstance(node, ast.ListComp):
                    self.assertEqual(len(node.generators), 1)
                    self.assertLessEqual(len(node.generators[0].ifs), 1)
                if isinstance(node, ast.Compare):
                    for op, right in zip(node.ops, node.comparators):
                        if isinstance(op, (ast.Is, ast.IsNot)):
                            self.assertIsInstance(right, ast.Constant)

        self.of_each_file(check)

    def test_functions(self):
        def check(path, text, tree):
            for node in ast.walk(tree):
                if isinstance(node, (ast.FunctionDef, ast.ClassDef)):
                    self.assertEqual(node.decorator_list, [])
                if isinstance(node, (ast.FunctionDef, ast.Lambda)):
                    args = node.args
                    self.assertEqual([args.vararg, args.kwarg, args.kwonlyargs, args.posonlyargs], [None, None, [], []])

        self.of_each_file(check)

    def test_classes(self):
        def check(path, text, tree):
            for node in ast.walk(tree):
                if isinstance(node, ast.ClassDef):
                    self.assertIn(node, tree.body)
                    self.assertLessEqual(len(node.bases), 1)
                    self.assertEqual(node.keywords, [])
                    for inner in node.body:
                        self.assertIsInstance(inner, (ast.FunctionDef, ast.Pass))

        self.of_each_file(check)

    def test_names(self):
        def check(path, text, tree):
            for name in bound_names(tree):
                if name not in UNDERSCORED:
                    self.assertRegex(name, r"\A[A-Za-z][A-Za-z0-9_]*\Z")
                    self.assertNotIn(name, FUNCTIONS | PYTHON_ERRORS)
            for node in ast.walk(tree):
                if isinstance(node, ast.Name):
                    self.assertNotIn(node.id, UNUSED)
                    known = set(bound_names(tree)) | FUNCTIONS | PYTHON_ERRORS
                    self.assertIn(node.id, known)

        self.of_each_file(check)

    def test_no_local_is_called_like_a_class_or_an_import(self):
        def check(path, text, tree):
            taken = {node.name for node in tree.body if isinstance(node, ast.ClassDef)}
            taken |= {alias.asname or alias.name for node in own_imports(tree) for alias in node.names}
            for node in ast.walk(tree):
                if isinstance(node, ast.arg):
                    self.assertNotIn(node.arg, taken)
                if isinstance(node, ast.Name) and isinstance(node.ctx, ast.Store):
                    self.assertNotIn(node.id, taken)

        self.of_each_file(check)

    def test_methods(self):
        own = set()
        for path in package_files():
            own |= set(method_names(ast.parse(path.read_text(encoding="utf-8"))))

        def check(path, text, tree):
            for node in ast.walk(tree):
                if isinstance(node, ast.Attribute):
                    self.assertNotIn(node.attr, {"format", "format_map", "mro"})
                if isinstance(node, ast.Call) and isinstance(node.func, ast.Attribute):
                    self.assertIn(node.func.attr, METHODS | own)

        self.of_each_file(check)

    def test_values(self):
        trees = [ast.parse(path.read_text(encoding="utf-8")) for path in package_files()]
        methods = [name for tree in trees for name in method_names(tree)]
        values = [name for tree in trees for name in value_names(tree)]
        self.assertNotEqual(values, [])
        self.assertEqual(sorted(set(methods) & set(values)), [])
        self.assertEqual(sorted(set(values) & (python_names() - VALUE_NAMES)), [])
        self.assertEqual(sorted(set(methods) & (python_names() - METHODS - UNDERSCORED - {"add", "discard"})), [])

        def check(path, text, tree):
            for node in ast.walk(tree):
                if isinstance(node, ast.ClassDef):
                    self.assertEqual(len(method_names(node)), len(set(method_names(node))))
                if isinstance(node, ast.Attribute) and isinstance(node.ctx, ast.Load):
                    self.assertIn(node.attr, METHODS | set(methods) | set(values))

        self.of_each_file(check)

    def test_values_are_set_by_their_own_object(self):
        def check(path, text, tree):
            for node in ast.walk(tree):
                if isinstance(node, ast.Attribute) and isinstance(node.ctx, ast.Store):
                    self.assertIsInstance(node.value, ast.Name)
                    self.assertEqual(node.value.id, "self")

        self.of_each_file(check)

    def test_methods_are_called_where_they_stand(self):
        methods = set()
        for path in package_files():
            methods |= set(method_names(ast.parse(path.read_text(encoding="utf-8"))))

        def check(path, text, tree):
            called = [node.func for node in ast.walk(tree) if isinstance(node, ast.Call)]
            for node in ast.walk(tree):
                if isinstance(node, ast.Attribute) and node.attr in METHODS | methods:
                    self.assertIn(node, called)

        self.of_each_file(check)

    def test_walked_at_once(self):
        def check(path, text, tree):
            places = walked_rightly(tree)
            for node in ast.walk(tree):
                if is_walked(node):
                    self.assertIn(node, places, ast.dump(node))

        self.of_each_file(check)

    def test_keywords(self):
        def check(path, text, tree):
            for node in ast.walk(tree):
                if isinstance(node, ast.Call) and node.keywords:
                    allowed = KEYWORDS.get(name_of_call(node), set())
                    self.assertEqual([word.arg for word in node.keywords if word.arg not in allowed], [])

        self.of_each_file(check)

    def test_f_strings_hold_plain_names(self):
        def check(path, text, tree):
            for node in ast.walk(tree):
                if isinstance(node, ast.FormattedValue):
                    self.assertIsInstance(node.value, ast.Name)
                    self.assertIn(node.conversion, (-1, ord("r")))
                    self.assertIsNone(node.format_spec)

        self.of_each_file(check)

    def test_imports(self):
        drawn = {}

        def check(path, text, tree):
            drawn[path.stem] = []
            for node in own_imports(tree):
                self.assertIn(node, tree.body)
                self.assertEqual(node.level, 0)
                package, dot, module = node.module.partition(".")
                self.assertEqual(package, "purse")
                source = ast.parse((PACKAGE / f"{module}.py").read_text(encoding="utf-8"))
                defined = [inner for inner in source.body if not isinstance(inner, ast.ImportFrom)]
                defined = top_names(ast.Module(body=defined, type_ignores=[]))
                for alias in node.names:
                    self.assertIn(alias.name, defined)
                drawn[path.stem].append(module)

        self.of_each_file(check)
        while drawn:
            free = [name for name in drawn if not any(module in drawn for module in drawn[name])]
            self.assertNotEqual(free, [], "files draw from one another")
            for name in free:
                drawn.pop(name)


if __name__ == "__main__":
    unittest.main()
