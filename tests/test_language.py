"""Those rules of ../shared/LANGUAGE.md that a walk through the package's files can see."""

import ast
import builtins
import pathlib
import re
import unittest

PACKAGE = pathlib.Path(__file__).resolve().parent.parent / "eventshelf"

NODES = set("""Module Expr Constant ImportFrom alias FunctionDef ClassDef arguments arg Assign AugAssign If While For
Return Break Continue Pass Raise Try ExceptHandler Call Name Attribute Subscript Slice Load Store BinOp UnaryOp BoolOp
Compare And Or Not USub Add Sub Mult FloorDiv Mod Pow LShift RShift BitAnd BitOr BitXor Invert Eq NotEq Lt LtE Gt GtE
Is IsNot In NotIn IfExp List Tuple Dict ListComp comprehension keyword JoinedStr FormattedValue Lambda""".split())

OWN_OF_PYTHON = set("""len range enumerate zip min max sum abs sorted reversed int str bool list tuple dict set
frozenset isinstance ord repr any all divmod Exception ValueError TypeError KeyError IndexError LookupError
ZeroDivisionError ArithmeticError OverflowError RuntimeError NotImplementedError StopIteration""".split())

METHODS = set("""append clear copy count endswith extend find get index insert isalnum isalpha isdigit islower isspace
isupper items join keys ljust lower lstrip partition pop remove replace reverse rfind rjust rpartition rsplit rstrip
setdefault split splitlines startswith strip update upper values zfill bit_length""".split())

VALUES_RULED_OUT = set("""items keys values pop update append clear extend insert remove reverse setdefault sort args
encode format format_map mro register elements open input real imag numerator denominator""".split())

WORDS_RULED_OUT = re.compile(
    r"\b(type|typing|typing_extensions|enum|Enum|IntEnum|StrEnum|Flag|IntFlag|Generic|Protocol|ABC|ABCMeta|namedtuple"
    r"|NamedTuple|TypedDict|TYPE_CHECKING|abstractmethod)\b|dataclass|overload|contextmanager")

INTERFACE = {"desk.py": ["answers"]}


def sources():
    return {path.name: path.read_text(encoding="utf-8") for path in sorted(PACKAGE.glob("*.py"))}


def trees():
    return {name: ast.parse(text) for name, text in sources().items()}


def defined(tree):
    """The names that a file defines at its top."""
    names = [node.name for node in tree.body if isinstance(node, (ast.FunctionDef, ast.ClassDef))]
    return names + [node.targets[0].id for node in tree.body if isinstance(node, ast.Assign)]


def imported(tree):
    return [name.name for node in tree.body if isinstance(node, ast.ImportFrom) for name in node.names]


def bound(tree):
    """Every name that a file gives to anything."""
    names = [node.id for node in ast.walk(tree) if isinstance(node, ast.Name) and isinstance(node.ctx, ast.Store)]
    names += [node.arg for node in ast.walk(tree) if isinstance(node, ast.arg)]
    return names + [node.name for node in ast.walk(tree) if isinstance(node, (ast.FunctionDef, ast.ClassDef))]


def each(kind):
    """Every node of that kind, with the place where it stands."""
    return [(f"{name}, line {getattr(node, 'lineno', 0)}", node)
            for name, tree in trees().items() for node in ast.walk(tree) if isinstance(node, kind)]


class Language(unittest.TestCase):
    def test_files(self):
        for path in PACKAGE.iterdir():
            if path.name != "__pycache__":
                self.assertRegex(path.name, r"^[a-z0-9_]+\.py$")

    def test_size_and_signs(self):
        for name, text in sources().items():
            with self.subTest(name):
                self.assertLessEqual(len(text.splitlines()), 399)
                self.assertLessEqual(max(len(line) for line in text.splitlines()), 120)
                self.assertEqual([sign for sign in text if sign != "\n" and not " " <= sign <= "~"], [])
                self.assertIsNone(WORDS_RULED_OUT.search(text))
        for place, node in each(ast.FunctionDef):
            self.assertLessEqual(node.end_lineno - node.lineno + 1, 40, place)

    def test_forms(self):
        for place, node in each(ast.AST):
            self.assertIn(node.__class__.__name__, NODES, place)
        for place, node in each(ast.Constant):
            self.assertIn(node.value.__class__.__name__, ("int", "str", "bool", "NoneType"), place)
        for place, node in each(ast.Assign):
            self.assertEqual(len(node.targets), 1, place)
        for place, node in each(ast.FunctionDef):
            self.assertEqual(node.decorator_list, [], place)
            self.assertEqual([node.args.vararg, node.args.kwarg, node.args.kwonlyargs], [None, None, []], place)

    def test_one_docstring_a_file_and_no_other_idle_expression(self):
        for name, tree in trees().items():
            idle = [node for node in ast.walk(tree)
                    if isinstance(node, ast.Expr) and isinstance(node.value, ast.Constant)]
            self.assertEqual(idle, tree.body[:1])
        for place, node in each(ast.Expr):
            self.assertIsInstance(node.value, (ast.Call, ast.Constant), place)

    def test_imports(self):
        files = trees()
        for place, node in each(ast.ImportFrom):
            self.assertEqual(node.level, 0, place)
            self.assertRegex(node.module, r"^eventshelf\.[a-z]+$", place)
            for single in node.names:
                self.assertIn(single.name, defined(files[node.module.split(".")[1] + ".py"]), place)

    def test_no_two_files_draw_from_one_another(self):
        drawn = {name: {node.module.split(".")[1] + ".py" for node in tree.body if isinstance(node, ast.ImportFrom)}
                 for name, tree in trees().items()}
        while drawn:
            free = [name for name, needs in drawn.items() if not needs & set(drawn)]
            self.assertNotEqual(free, [], "a ring of imports")
            for name in free:
                drawn.pop(name)

    def test_names(self):
        for name, tree in trees().items():
            for given in bound(tree):
                with self.subTest(name, given=given):
                    self.assertRegex(given, r"^[A-Za-z][A-Za-z0-9_]*$|^__init__$")
                    self.assertNotIn(given, dir(builtins))
                    self.assertNotIn(given, imported(tree))
            self.assertEqual(len(defined(tree)), len(set(defined(tree))))
        for place, node in each(ast.Name):
            if node.id in dir(builtins):
                self.assertIn(node.id, OWN_OF_PYTHON, place)

    def test_sets_are_neither_kept_nor_walked(self):
        for name, tree in trees().items():
            around = {inner: outer for outer in ast.walk(tree) for inner in ast.iter_child_nodes(outer)}
            for node in ast.walk(tree):
                if isinstance(node, ast.Call) and getattr(node.func, "id", "") == "set":
                    outer = around[node]
                    while isinstance(outer, ast.BinOp):
                        outer = around[outer]
                    within = isinstance(outer, ast.Call) and getattr(outer.func, "id", "") in ("sorted", "len")
                    self.assertTrue(within or isinstance(outer, ast.Compare), f"{name}, line {node.lineno}")

    def test_methods_and_values(self):
        for place, node in each(ast.Call):
            if isinstance(node.func, ast.Attribute):
                self.assertIn(node.func.attr, METHODS, place)
        for place, node in each(ast.Attribute):
            if isinstance(node.ctx, ast.Store):
                self.assertNotIn(node.attr, VALUES_RULED_OUT, place)

    def test_interface(self):
        files = trees()
        for file_name, functions in INTERFACE.items():
            for function in functions:
                self.assertEqual([name for name, tree in files.items() if function in defined(tree)], [file_name])


if __name__ == "__main__":
    unittest.main()
