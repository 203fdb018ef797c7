"""The rules of the language that a walk over the package's files can see."""

import ast
import builtins
import pathlib
import re
import unittest

PACKAGE = pathlib.Path(__file__).resolve().parent.parent / "hirefair"

PYTHONS_OWN = set("""
    len range enumerate zip min max sum abs sorted reversed int str bool list tuple dict set frozenset isinstance
    ord repr any all divmod Exception ValueError TypeError KeyError IndexError LookupError ZeroDivisionError
    ArithmeticError OverflowError RuntimeError NotImplementedError AttributeError StopIteration
""".split())

METHODS = set("""
    append clear copy count endswith extend find get index insert isalnum isalpha isdigit islower isspace isupper
    items join keys ljust lower lstrip partition pop remove replace reverse rfind rjust rpartition rsplit rstrip
    setdefault split splitlines startswith strip update upper values zfill bit_length
""".split())

NODES = set("""
    Module FunctionDef ClassDef arguments arg Return Assign AugAssign If While For Break Continue Pass Raise Try
    ExceptHandler Expr Call Attribute Subscript Slice Name Constant List Tuple Dict ListComp comprehension IfExp
    BoolOp BinOp UnaryOp Compare Lambda JoinedStr FormattedValue ImportFrom alias keyword Load Store And Or Not USub
    UAdd Invert Add Sub Mult FloorDiv Mod Pow BitAnd BitOr BitXor LShift RShift Eq NotEq Lt LtE Gt GtE Is IsNot In
    NotIn
""".split())

WORDS = re.compile(
    r"\b(type|typing|typing_extensions|enum|Enum|IntEnum|StrEnum|Flag|IntFlag|Generic|Protocol|ABC|ABCMeta"
    r"|namedtuple|NamedTuple|TypedDict|TYPE_CHECKING|abstractmethod)\b|dataclass|overload|contextmanager"
)


NOT_USED = set("""
    register mro elements open input version_info with_traceback add_note attrgetter breakpoint builtins compile
    copyright credits delattr dir eval exec exit gc getattr globals hasattr help id importlib license locals
    methodcaller os quit setattr super vars sys format format_map chr
""".split())

KEYWORDS = {
    "sorted": {"key", "reverse"}, "min": {"key", "default"}, "max": {"key", "default"}, "sum": {"start"},
    "enumerate": {"start"}, "zip": {"strict"},
}

VALUES_NOT_CALLED = set("""
    items keys values pop update append clear extend insert remove reverse setdefault sort args encode format
""".split())


def package_files():
    return sorted(path for path in PACKAGE.rglob("*") if "__pycache__" not in path.parts and path.is_file())


def own_methods(trees):
    classes = [node for tree in trees for node in ast.walk(tree) if isinstance(node, ast.ClassDef)]
    return {part.name for found in classes for part in found.body if isinstance(part, ast.FunctionDef)}


class Language(unittest.TestCase):
    @classmethod
    def setUpClass(cls):
        cls.texts = {path.name: path.read_text(encoding="utf-8") for path in package_files()}
        cls.trees = {name: ast.parse(text) for name, text in cls.texts.items()}

    def nodes(self, *kinds):
        for name, tree in self.trees.items():
            for node in ast.walk(tree):
                if isinstance(node, kinds):
                    yield f"{name}:{getattr(node, 'lineno', 0)}", node

    def test_files(self):
        self.assertIn("__init__.py", self.texts)
        for path in package_files():
            self.assertRegex(path.name, r"\A(__init__|__main__|[a-z][a-z0-9_]*)\.py\Z")

    def test_signs_words_and_sizes(self):
        for name, text in self.texts.items():
            with self.subTest(name):
                self.assertRegex(text, r"\A[ -~\n]*\Z")
                self.assertIsNone(WORDS.search(text))
                self.assertLessEqual(len(text.splitlines()), 400)
                self.assertLessEqual(max(map(len, text.splitlines()), default=0), 120)
        for place, node in self.nodes(ast.FunctionDef):
            self.assertLessEqual(node.end_lineno - node.lineno + 1, 40, place)

    def test_only_the_kinds_of_node_that_are_allowed(self):
        for place, node in self.nodes(ast.AST):
            self.assertIn(node.__class__.__name__, NODES, place)

    def test_imports_are_the_packages_own(self):
        for place, node in self.nodes(ast.ImportFrom):
            self.assertEqual(node.level, 0, place)
            self.assertRegex(node.module, r"\A(hirefair\.[a-z0-9_.]+|__future__)\Z", place)
            self.assertNotIn("*", [alias.name for alias in node.names], place)

    def test_names(self):
        for place, node in self.nodes(ast.Name):
            self.assertFalse(node.id.startswith("_"), place)
            if hasattr(builtins, node.id):
                self.assertIn(node.id, PYTHONS_OWN, place)
                self.assertIsInstance(node.ctx, ast.Load, place)
        for place, node in self.nodes(ast.arg):
            self.assertFalse(node.arg.startswith("_") or hasattr(builtins, node.arg), place)

    def test_called_methods(self):
        allowed = METHODS | own_methods(self.trees.values())
        for place, node in self.nodes(ast.Call):
            if isinstance(node.func, ast.Attribute):
                self.assertIn(node.func.attr, allowed, place)

    def test_plain_functions_and_classes(self):
        for place, node in self.nodes(ast.FunctionDef, ast.ClassDef):
            self.assertEqual(node.decorator_list, [], place)
        for place, node in self.nodes(ast.arguments):
            self.assertEqual((node.vararg, node.kwarg, node.kwonlyargs, node.posonlyargs), (None, None, [], []), place)
        for place, node in self.nodes(ast.Assign):
            self.assertEqual(len(node.targets), 1, place)
        for place, node in self.nodes(ast.For, ast.While):
            self.assertEqual(node.orelse, [], place)
        for place, node in self.nodes(ast.Constant):
            self.assertNotIsInstance(node.value, (float, complex, bytes), place)

    def test_comparisons_by_is(self):
        for place, node in self.nodes(ast.Compare):
            for sign, side in zip(node.ops, node.comparators):
                if isinstance(sign, (ast.Is, ast.IsNot)):
                    self.assertIsInstance(side, ast.Constant, place)
                    self.assertIn(side.value.__class__, (None.__class__, bool), place)

    def test_comprehensions_texts_and_powers(self):
        for place, node in self.nodes(ast.ListComp):
            self.assertEqual(len(node.generators), 1, place)
            self.assertLessEqual(len(node.generators[0].ifs), 1, place)
        for place, node in self.nodes(ast.Constant):
            self.assertNotIn("%", str(node.value), place)
        for place, node in self.nodes(ast.BinOp):
            if isinstance(node.op, ast.Pow):
                self.assertIsInstance(node.right, ast.Constant, place)

    def test_names_that_are_not_used(self):
        for place, node in self.nodes(ast.Name, ast.Attribute, ast.arg, ast.FunctionDef):
            name = [part for part in ("id", "attr", "arg", "name") if hasattr(node, part)][0]
            self.assertNotIn(getattr(node, name), NOT_USED, place)

    def test_keywords(self):
        for place, node in self.nodes(ast.Call):
            allowed = KEYWORDS.get(getattr(node.func, "id", None), set())
            self.assertLessEqual({keyword.arg for keyword in node.keywords}, allowed, place)

    def test_sets_are_not_kept(self):
        for name, tree in self.trees.items():
            for node in ast.walk(tree):
                for child in ast.iter_child_nodes(node):
                    if isinstance(child, ast.Call) and getattr(child.func, "id", None) in ("set", "frozenset"):
                        within = isinstance(node, ast.Call) and getattr(node.func, "id", None) in ("len", "sorted")
                        self.assertTrue(within or isinstance(node, ast.Compare), f"{name}:{child.lineno}")

    def test_each_name_at_the_top_once_and_not_shadowed(self):
        for name, tree in self.trees.items():
            imported = [alias.name for node in tree.body if isinstance(node, ast.ImportFrom) for alias in node.names]
            classes = [node.name for node in tree.body if isinstance(node, ast.ClassDef)]
            functions = [node.name for node in tree.body if isinstance(node, ast.FunctionDef)]
            top = imported + classes + functions
            self.assertEqual(len(top), len(set(top)), name)
            for node in ast.walk(tree):
                bound = getattr(node, "arg", None) if isinstance(node, ast.arg) else None
                if isinstance(node, ast.Name) and isinstance(node.ctx, ast.Store):
                    bound = node.id
                self.assertNotIn(bound, top, f"{name}:{getattr(node, 'lineno', 0)}")

    def test_no_name_is_a_method_and_a_value(self):
        values = {node.attr for place, node in self.nodes(ast.Attribute) if isinstance(node.ctx, ast.Store)}
        self.assertEqual(values & own_methods(self.trees.values()), set())
        self.assertEqual(values & VALUES_NOT_CALLED, set())

    def test_imports_name_the_file_that_defines_and_go_one_way(self):
        drawn = {name: set() for name in self.trees}
        for name, tree in self.trees.items():
            for node in ast.walk(tree):
                if isinstance(node, ast.ImportFrom):
                    source = node.module.split(".", 1)[1] + ".py"
                    drawn[name].add(source)
                    defined = {part.name for part in self.trees[source].body if hasattr(part, "name")}
                    self.assertLessEqual({alias.name for alias in node.names}, defined, name)
        while drawn:
            free = [name for name in drawn if not drawn[name] & set(drawn)]
            self.assertTrue(free, f"these draw from one another: {sorted(drawn)}")
            for name in free:
                del drawn[name]


if __name__ == "__main__":
    unittest.main()
