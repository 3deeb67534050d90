"""The form of the package's files: those of the language's rules that can be read off the code."""

import ast
import builtins
import pathlib
import re
import unittest

PACKAGE = pathlib.Path(__file__).resolve().parent.parent / "standrows"
OWN_NAMES = set(
    "len range enumerate zip min max sum abs sorted reversed int str bool list tuple dict set frozenset isinstance "
    "ord repr any all divmod Exception ValueError TypeError KeyError IndexError LookupError ZeroDivisionError "
    "ArithmeticError OverflowError RuntimeError NotImplementedError AttributeError StopIteration".split()
)
METHODS = set(
    "append clear copy count endswith extend find get index insert isalnum isalpha isdigit islower isspace isupper "
    "items join keys ljust lower lstrip partition pop remove replace reverse rfind rjust rpartition rsplit rstrip "
    "setdefault split splitlines startswith strip update upper values zfill bit_length".split()
)
NODES = set(
    "Module Expr Constant ImportFrom alias FunctionDef arguments arg ClassDef Assign AugAssign Name Load Store "
    "Attribute Subscript Slice Tuple List Dict If While For Return Break Continue Pass Raise Try ExceptHandler Call "
    "Compare BoolOp UnaryOp BinOp IfExp ListComp comprehension JoinedStr FormattedValue Lambda keyword And Or Not "
    "USub Add Sub Mult FloorDiv Mod Pow BitAnd BitOr BitXor LShift RShift Invert Eq NotEq Lt LtE Gt GtE In NotIn Is "
    "IsNot".split()
)
TOP = (ast.Expr, ast.ImportFrom, ast.FunctionDef, ast.ClassDef, ast.Assign)
PLAIN_NAME = re.compile(r"[A-Za-z][A-Za-z0-9_]*")
WORDS = re.compile(
    r"\b(type|typing|typing_extensions|enum|Enum|IntEnum|StrEnum|Flag|IntFlag|Generic|Protocol|ABC|ABCMeta|"
    r"namedtuple|NamedTuple|TypedDict|TYPE_CHECKING|abstractmethod)\b|dataclass|overload|contextmanager"
)
KEYWORDS = {
    "sorted": {"key", "reverse"}, "min": {"key", "default"}, "max": {"key", "default"}, "sum": {"start"},
    "enumerate": {"start"}, "zip": {"strict"},
}
WALKED = set("zip enumerate reversed range items keys values".split())
WALKERS = set("list tuple dict sorted sum any all enumerate zip min max".split())
NOT_USED = set("register mro elements open input version_info with_traceback add_note sys os id super format".split())


def bound_names(tree):
    """Every name that the file itself gives: defs, classes, parameters and what is assigned."""
    for node in ast.walk(tree):
        if isinstance(node, (ast.FunctionDef, ast.ClassDef)):
            yield node.name
        elif isinstance(node, ast.arg):
            yield node.arg
        elif isinstance(node, (ast.Name, ast.Attribute)) and isinstance(node.ctx, ast.Store):
            yield node.id if isinstance(node, ast.Name) else node.attr


def trees():
    return [(path, ast.parse(path.read_text())) for path in sorted(PACKAGE.glob("*.py"))]


class Form(unittest.TestCase):
    def test_the_folder_holds_its_files_alone(self):
        found = sorted(path.name for path in PACKAGE.iterdir() if path.name != "__pycache__")
        self.assertEqual(found, ["__init__.py", "group.py", "photo.py"])

    def test_signs_words_and_sizes(self):
        for path, tree in trees():
            text = path.read_text()
            self.assertRegex(text, r"\A[ -~\n]*\Z")
            self.assertIsNone(WORDS.search(text))
            self.assertLessEqual(len(text.splitlines()), 400)
            self.assertLessEqual(max(len(line) for line in text.splitlines()), 120)
            for node in ast.walk(tree):
                if isinstance(node, ast.FunctionDef):
                    self.assertLessEqual(node.end_lineno - node.lineno + 1, 40, node.name)

    def test_statements_and_expressions(self):
        for path, tree in trees():
            self.assertTrue(all(isinstance(node, TOP) for node in tree.body))
            for node in ast.walk(tree):
                self.assertIn(node.__class__.__name__, NODES, getattr(node, "lineno", 0))
                if isinstance(node, ast.Assign):
                    self.assertEqual(len(node.targets), 1)
                if isinstance(node, (ast.For, ast.While, ast.Try)):
                    self.assertFalse(node.orelse and not isinstance(node, ast.Try))
                if isinstance(node, ast.FunctionDef):
                    self.assertEqual(node.decorator_list, [])
                if isinstance(node, ast.ListComp):
                    self.assertEqual(len(node.generators), 1)
                if isinstance(node, ast.Constant):
                    self.assertIn(node.value.__class__.__name__, ("int", "str", "bool", "NoneType"))

    def test_imports_are_the_packages_own(self):
        drawn = {}
        for path, tree in trees():
            nodes = [node for node in ast.walk(tree) if isinstance(node, ast.ImportFrom)]
            self.assertTrue(all(node.level == 0 and node.module.startswith("standrows.") for node in nodes))
            drawn[path.stem] = sorted({node.module.split(".")[1] for node in nodes})
        self.assertEqual(drawn, {"__init__": [], "group": [], "photo": ["group"]})

    def test_names(self):
        for path, tree in trees():
            for name in bound_names(tree):
                self.assertTrue(name == "__init__" or PLAIN_NAME.fullmatch(name), name)
                self.assertNotIn(name, dir(builtins))
                self.assertNotIn(name, NOT_USED)
            own = set(bound_names(tree))
            own |= {alias.name for node in ast.walk(tree) if isinstance(node, ast.ImportFrom) for alias in node.names}
            for node in ast.walk(tree):
                if isinstance(node, ast.Name) and isinstance(node.ctx, ast.Load):
                    self.assertIn(node.id, own | OWN_NAMES)

    def test_methods_and_values(self):
        own = set()
        for path, tree in trees():
            own |= set(bound_names(tree))
        for path, tree in trees():
            for node in ast.walk(tree):
                if isinstance(node, ast.Attribute):
                    self.assertIn(node.attr, own | METHODS)

    def test_no_name_of_the_top_is_bound_twice_or_hidden(self):
        for path, tree in trees():
            top = [node.name for node in tree.body if isinstance(node, (ast.FunctionDef, ast.ClassDef))]
            top += [node.targets[0].id for node in tree.body if isinstance(node, ast.Assign)]
            top += [alias.name for node in tree.body if isinstance(node, ast.ImportFrom) for alias in node.names]
            self.assertEqual(sorted(top), sorted(set(top)))
            for node in [node for node in ast.walk(tree) if isinstance(node, ast.FunctionDef)]:
                inner = {name for part in node.body for name in bound_names(part)}
                inner |= {parameter.arg for parameter in node.args.args}
                attributes = {part.attr for part in ast.walk(node) if isinstance(part, ast.Attribute)}
                self.assertEqual((inner - attributes) & set(top), set(), node.name)

    def test_is_stands_beside_plain_words_alone(self):
        for path, tree in trees():
            for node in [node for node in ast.walk(tree) if isinstance(node, ast.Compare)]:
                if any(isinstance(sign, (ast.Is, ast.IsNot)) for sign in node.ops):
                    self.assertEqual(len(node.comparators), 1)
                    self.assertIn(getattr(node.comparators[0], "value", 0), (None, True, False))

    def test_keywords_of_pythons_own(self):
        for path, tree in trees():
            for node in [node for node in ast.walk(tree) if isinstance(node, ast.Call) and node.keywords]:
                name = getattr(node.func, "id", None)
                self.assertLessEqual({keyword.arg for keyword in node.keywords}, KEYWORDS.get(name, set()))

    def test_what_is_walked_at_once(self):
        for path, tree in trees():
            allowed = []
            for node in ast.walk(tree):
                if isinstance(node, (ast.For, ast.comprehension)):
                    allowed.append(node.iter)
                if isinstance(node, ast.Call) and getattr(node.func, "id", None) in WALKERS:
                    allowed += node.args
            for node in [node for node in ast.walk(tree) if isinstance(node, ast.Call)]:
                name = getattr(node.func, "id", getattr(node.func, "attr", None))
                if name in WALKED:
                    self.assertTrue(any(node is other for other in allowed), node.lineno)

    def test_no_set_is_made(self):
        for path, tree in trees():
            names = {node.id for node in ast.walk(tree) if isinstance(node, ast.Name)}
            self.assertEqual(names & {"set", "frozenset", "chr", "print"}, set())

    def test_lists_and_dicts_of_the_top_are_tuples(self):
        """So that nothing can be kept there."""
        for path, tree in trees():
            for node in [node for node in tree.body if isinstance(node, ast.Assign)]:
                self.assertIsInstance(node.value, (ast.Constant, ast.UnaryOp, ast.Tuple))


if __name__ == "__main__":
    unittest.main()
