"""What a walk over the files shows of LANGUAGE.md: parts of L1 to L8, L10, L12, L14 to L18, L20, L22, L23, L25, L27."""

import ast
import builtins
import pathlib
import re
import unittest

PACKAGE = pathlib.Path(__file__).resolve().parent.parent / "shelfnames"

NODES = set("""
    Module Import ImportFrom alias FunctionDef ClassDef arguments arg Lambda
    Assign AugAssign If While For Return Break Continue Pass Raise Try ExceptHandler Expr
    Constant Name Attribute Subscript Slice Call keyword List Tuple Dict Set ListComp comprehension
    JoinedStr FormattedValue IfExp BoolOp And Or UnaryOp Not USub UAdd Invert Compare
    Eq NotEq Lt LtE Gt GtE Is IsNot In NotIn Load Store
    BinOp Add Sub Mult FloorDiv Mod Pow BitAnd BitOr BitXor LShift RShift
""".split())

OWN_NAMES = set("""
    len range enumerate zip min max sum abs sorted reversed int str bool list tuple dict set frozenset
    isinstance ord repr any all divmod
    Exception ValueError TypeError KeyError IndexError LookupError ZeroDivisionError ArithmeticError
    OverflowError RuntimeError NotImplementedError AttributeError StopIteration
""".split())

UNUSED_NAMES = set("""
    register mro elements open input version_info with_traceback add_note format format_map
    attrgetter breakpoint compile delattr dir eval exec exit gc getattr globals hasattr help id
    importlib locals methodcaller os quit setattr super vars sys
""".split())

UNUSED_WORDS = re.compile(r"""\b(type|typing|typing_extensions|enum|Enum|IntEnum|StrEnum|Flag|IntFlag|Generic|Protocol
    |ABC|ABCMeta|namedtuple|NamedTuple|TypedDict|TYPE_CHECKING|abstractmethod)\b
    |dataclass|overload|contextmanager""", re.VERBOSE)

METHODS = set("""
    append clear copy count endswith extend find get index insert isalnum isalpha isdigit islower isspace isupper
    items join keys ljust lower lstrip partition pop remove replace reverse rfind rjust rpartition rsplit rstrip
    setdefault split splitlines startswith strip update upper values zfill bit_length
""".split())

WALKED = {"zip", "enumerate", "reversed", "range", "items", "keys", "values"}
WALKERS = {"list", "tuple", "dict", "sorted", "sum", "any", "all", "enumerate", "zip", "min", "max", "join"}

KEYWORDS = {
    "sorted": {"key", "reverse"}, "min": {"key", "default"}, "max": {"key", "default"},
    "sum": {"start"}, "enumerate": {"start"}, "zip": {"strict"},
}

UNDERSCORED = {"__init__", "__eq__", "__repr__", "__str__", "__len__"}


def package_files():
    return sorted(path for path in PACKAGE.rglob("*") if "__pycache__" not in path.parts and path.is_file())


def trees():
    return [(path.name, ast.parse(path.read_text())) for path in package_files()]


def nodes(*kinds):
    return [(name, node) for name, tree in trees() for node in ast.walk(tree) if isinstance(node, kinds)]


def bound_names(node):
    if isinstance(node, (ast.FunctionDef, ast.ClassDef)):
        return [node.name]
    if isinstance(node, ast.arg):
        return [node.arg]
    if isinstance(node, ast.Attribute):
        return [node.attr]
    return [node.id]


def called(node):
    """The name that a call is by, or None."""
    if isinstance(node, ast.Call):
        return getattr(node.func, "id", getattr(node.func, "attr", None))
    return None


def imported(tree):
    return [(node.module, alias.name) for node in tree.body if isinstance(node, ast.ImportFrom) for alias in node.names]


def is_plain(node):
    if isinstance(node, ast.UnaryOp):
        return isinstance(node.op, ast.USub) and is_plain(node.operand)
    if isinstance(node, (ast.List, ast.Tuple)):
        return all(is_plain(part) for part in node.elts)
    return isinstance(node, ast.Constant)


class LanguageTest(unittest.TestCase):
    def test_files(self):
        self.assertIn("__init__.py", [path.name for path in package_files()])
        for path in package_files():
            self.assertRegex(path.name, r"\A(__init__|[a-z][a-z0-9_]*)\.py\Z")
            self.assertNotIn(path.stem, dir(builtins))

    def test_signs_and_sizes(self):
        for path in package_files():
            text = path.read_bytes().decode("utf-8")
            self.assertRegex(text, r"\A[ -~\n]*\Z", path.name)
            self.assertLessEqual(len(text.split("\n")), 400, path.name)
            self.assertLessEqual(max(len(line) for line in text.split("\n")), 120, path.name)
            self.assertIsNone(UNUSED_WORDS.search(text), path.name)
        for name, node in nodes(ast.FunctionDef):
            self.assertLessEqual(node.end_lineno - node.lineno + 1, 40, (name, node.name))

    def test_imports(self):
        for name, node in nodes(ast.Import, ast.ImportFrom):
            self.assertIsInstance(node, ast.ImportFrom, name)
            self.assertEqual(node.level, 0, name)
            self.assertTrue(node.module.startswith("shelfnames."), (name, node.module))
            self.assertNotIn("*", [alias.name for alias in node.names], name)

    def test_forms(self):
        for name, node in nodes(ast.AST):
            self.assertIn(type(node).__name__, NODES, (name, getattr(node, "lineno", None)))
        for name, node in nodes(ast.Constant):
            self.assertIn(type(node.value), (int, str, bool, type(None)), (name, node.lineno))
        for name, node in nodes(ast.FunctionDef, ast.ClassDef):
            self.assertEqual(node.decorator_list, [], (name, node.name))
        for name, node in nodes(ast.arguments):
            self.assertFalse(node.vararg or node.kwarg or node.kwonlyargs or node.posonlyargs, name)
        for name, node in nodes(ast.Assign):
            self.assertEqual(len(node.targets), 1, (name, node.lineno))
        for name, node in nodes(ast.For, ast.While):
            self.assertEqual(node.orelse, [], (name, node.lineno))

    def test_statements_by_themselves_are_calls(self):
        for name, tree in trees():
            first = tree.body[0] if tree.body else None
            for node in ast.walk(tree):
                if isinstance(node, ast.Expr) and node is not first:
                    self.assertIsInstance(node.value, ast.Call, (name, node.lineno))

    def test_names(self):
        for name, node in nodes(ast.FunctionDef, ast.ClassDef, ast.arg, ast.Attribute, ast.Name):
            for word in bound_names(node):
                self.assertNotIn(word, UNUSED_NAMES, (name, node.lineno))
                if word not in UNDERSCORED:
                    self.assertRegex(word, r"\A[A-Za-z][A-Za-z0-9_]*\Z", (name, node.lineno))
        for name, node in nodes(ast.Name, ast.arg):
            word = bound_names(node)[0]
            if word in dir(builtins):
                self.assertIn(word, OWN_NAMES, (name, node.lineno))
                self.assertNotIsInstance(getattr(node, "ctx", ast.Store()), ast.Store, (name, node.lineno))

    def test_methods(self):
        own = {node.name for name, node in nodes(ast.FunctionDef)}
        stored = {node.attr for name, node in nodes(ast.Attribute) if isinstance(node.ctx, ast.Store)}
        self.assertEqual(own & stored, set())
        for name, node in nodes(ast.Call):
            if isinstance(node.func, ast.Attribute):
                self.assertIn(node.func.attr, METHODS | own, (name, node.lineno))

    def test_the_top_of_a_module_and_of_a_class(self):
        for name, tree in trees():
            bound = []
            for node in tree.body:
                kinds = (ast.ImportFrom, ast.FunctionDef, ast.ClassDef, ast.Assign)
                self.assertTrue(isinstance(node, kinds) or node is tree.body[0], (name, node.lineno))
                if isinstance(node, ast.Assign):
                    self.assertTrue(is_plain(node.value), (name, node.lineno))
                    bound.append(node.targets[0].id)
                elif isinstance(node, (ast.FunctionDef, ast.ClassDef)):
                    bound.append(node.name)
            bound.extend(word for module, word in imported(tree))
            self.assertEqual(sorted(bound), sorted(set(bound)), name)
        for name, node in nodes(ast.ClassDef):
            self.assertLessEqual(len(node.bases), 1, (name, node.name))
            for part in node.body:
                self.assertIsInstance(part, (ast.FunctionDef, ast.Pass), (name, part.lineno))
            methods = [part.name for part in node.body if isinstance(part, ast.FunctionDef)]
            self.assertEqual(sorted(methods), sorted(set(methods)), (name, node.name))

    def test_locals_are_not_called_like_classes_or_imports(self):
        for name, tree in trees():
            taken = {word for module, word in imported(tree)}
            taken |= {node.name for node in tree.body if isinstance(node, ast.ClassDef)}
            for node in ast.walk(tree):
                if isinstance(node, ast.arg) or isinstance(node, ast.Name) and isinstance(node.ctx, ast.Store):
                    self.assertNotIn(bound_names(node)[0], taken, (name, node.lineno))

    def test_names_are_drawn_from_the_file_that_defines_them_and_never_in_a_ring(self):
        tree_of = {"shelfnames." + name.removesuffix(".py"): tree for name, tree in trees()}
        for module, tree in tree_of.items():
            for drawn, word in imported(tree):
                defined = [getattr(node, "name", None) for node in tree_of[drawn].body]
                defined += [node.targets[0].id for node in tree_of[drawn].body if isinstance(node, ast.Assign)]
                self.assertIn(word, defined, (module, drawn))
            reached = [drawn for drawn, word in imported(tree)]
            for drawn in reached:
                reached.extend(further for further, word in imported(tree_of[drawn]) if further not in reached)
            self.assertNotIn(module, reached)

    def test_is_stands_beside_none_true_and_false_alone(self):
        for name, node in nodes(ast.Compare):
            if any(isinstance(sign, (ast.Is, ast.IsNot)) for sign in node.ops):
                values = [getattr(side, "value", 0) for side in node.comparators]
                self.assertTrue(all(value is None or isinstance(value, bool) for value in values), (name, node.lineno))

    def test_keywords(self):
        own = {node.name for name, node in nodes(ast.FunctionDef, ast.ClassDef)}
        for name, node in nodes(ast.Call):
            words = {keyword.arg for keyword in node.keywords}
            if called(node) not in own:
                self.assertLessEqual(words, KEYWORDS.get(called(node), set()), (name, node.lineno))

    def test_walked_at_once(self):
        walked_here = set()
        for name, node in nodes(ast.For, ast.comprehension, ast.Call):
            if isinstance(node, ast.Call):
                walked = node.args if called(node) in WALKERS else []
            else:
                walked = [node.iter]
            walked_here.update((name, part.lineno, part.col_offset) for part in walked)
        for name, node in nodes(ast.Call):
            if called(node) in WALKED:
                self.assertIn((name, node.lineno, node.col_offset), walked_here)

    def test_numbers_and_texts(self):
        for name, node in nodes(ast.Constant):
            if isinstance(node.value, str):
                self.assertNotIn("%", node.value, (name, node.lineno))
        for name, node in nodes(ast.BinOp):
            if isinstance(node.op, ast.Pow):
                self.assertIn(getattr(node.right, "value", -1), range(65), (name, node.lineno))
        self.assertNotIn("chr", [called(node) for name, node in nodes(ast.Call)])


if __name__ == "__main__":
    unittest.main()
