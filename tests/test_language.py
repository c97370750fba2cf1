"""That the package's files keep to the part of Python that they must: what can be seen of its rules by reading."""

import ast
import builtins
import pathlib
import re
import unittest

FOLDER = pathlib.Path(__file__).resolve().parent.parent / "landdays"
FILES = sorted(path for path in FOLDER.rglob("*") if "__pycache__" not in path.parts and path.is_file())

NODES = """Module Expr Assign AugAssign If While For Return Break Continue Pass Raise Try ExceptHandler
FunctionDef ClassDef arguments arg Lambda ImportFrom alias Name Load Store Constant List Tuple Dict Set
BinOp UnaryOp BoolOp Compare IfExp Call keyword Attribute Subscript Slice ListComp comprehension JoinedStr
FormattedValue Add Sub Mult FloorDiv Mod Pow BitAnd BitOr BitXor LShift RShift Invert And Or Not USub UAdd
Eq NotEq Lt LtE Gt GtE Is IsNot In NotIn""".split()

OWN_NAMES = """len range enumerate zip min max sum abs sorted reversed int str bool list tuple dict set frozenset
isinstance ord repr any all divmod Exception ValueError TypeError KeyError IndexError LookupError ZeroDivisionError
ArithmeticError OverflowError RuntimeError NotImplementedError AttributeError StopIteration""".split()

METHODS = """append clear copy count endswith extend find get index insert isalnum isalpha isdigit islower isspace
isupper items join keys ljust lower lstrip partition pop remove replace reverse rfind rjust rpartition rsplit rstrip
setdefault split splitlines startswith strip update upper values zfill bit_length""".split()

UNUSED_NAMES = """register mro elements open input version_info with_traceback add_note attrgetter breakpoint builtins
compile copyright credits delattr dir eval exec exit gc getattr globals hasattr help id importlib license locals
methodcaller os quit setattr super type vars sys""".split()

UNUSED_WORDS = """type typing typing_extensions enum Enum IntEnum StrEnum Flag IntFlag Generic Protocol ABC ABCMeta
namedtuple NamedTuple TypedDict TYPE_CHECKING abstractmethod""".split()

WALKED_AT_ONCE = ("zip", "enumerate", "reversed", "range")
WALKERS = ("list", "tuple", "dict", "sorted", "sum", "any", "all", "enumerate", "zip", "min", "max")


def tree_of(path):
    return ast.parse(path.read_text("utf-8"))


def bound_names(tree):
    """All names that a file binds, wherever."""
    found = []
    for node in ast.walk(tree):
        if isinstance(node, (ast.FunctionDef, ast.ClassDef)):
            found.append(node.name)
        elif isinstance(node, ast.arg):
            found.append(node.arg)
        elif isinstance(node, ast.Name) and isinstance(node.ctx, ast.Store):
            found.append(node.id)
        elif isinstance(node, ast.Attribute) and isinstance(node.ctx, ast.Store):
            found.append(node.attr)
    return found


def top_names(tree):
    """The names that a file itself defines at its top."""
    found = []
    for node in tree.body:
        if isinstance(node, (ast.FunctionDef, ast.ClassDef)):
            found.append(node.name)
        elif isinstance(node, ast.Assign):
            found.append(node.targets[0].id)
    return found


def imports(tree):
    return [node for node in tree.body if isinstance(node, ast.ImportFrom)]


class TestLanguage(unittest.TestCase):
    def each(self):
        for path in FILES:
            with self.subTest(file=path.name):
                yield path, tree_of(path)

    def test_files(self):
        self.assertIn("__init__.py", [path.name for path in FILES])
        self.assertIn("desk.py", [path.name for path in FILES])
        for path in FILES:
            self.assertRegex(path.name, r"^([a-z][a-z0-9_]*|__init__|__main__)\.py$")
            self.assertFalse(path.stem in dir(builtins) or path.stem.startswith("test"), path)

    def test_signs_and_sizes(self):
        for path in FILES:
            text = path.read_text("utf-8")
            self.assertRegex(text, r"^[ -~\n]*$")
            self.assertLessEqual(len(text.splitlines()), 400)
            self.assertLessEqual(max(len(row) for row in text.splitlines()), 120)
            for node in ast.walk(tree_of(path)):
                if isinstance(node, ast.FunctionDef):
                    self.assertLessEqual(node.end_lineno - node.lineno + 1, 40, node.name)

    def test_words(self):
        for path in FILES:
            text = path.read_text("utf-8")
            words = re.findall(r"[A-Za-z0-9_]+", text)
            self.assertEqual([word for word in words if word in UNUSED_WORDS], [], path)
            self.assertNotRegex(text, "dataclass|overload|contextmanager")

    def test_nodes(self):
        for path, tree in self.each():
            for node in ast.walk(tree):
                name = node.__class__.__name__
                self.assertIn(name, NODES, f"row {getattr(node, 'lineno', '?')}")
                if isinstance(node, ast.Constant):
                    self.assertIn(node.value.__class__, (int, str, bool, type(None)))
                if isinstance(node, ast.Assign):
                    self.assertEqual(len(node.targets), 1)
                    self.assertNotIsInstance(node.targets[0], (ast.Tuple, ast.List))
                if isinstance(node, (ast.For, ast.While)):
                    self.assertEqual(node.orelse, [])
                if isinstance(node, ast.ListComp):
                    self.assertEqual(len(node.generators), 1)
                    self.assertLessEqual(len(node.generators[0].ifs), 1)

    def test_defs(self):
        for path, tree in self.each():
            for node in ast.walk(tree):
                if isinstance(node, (ast.FunctionDef, ast.ClassDef)):
                    self.assertEqual(node.decorator_list, [])
                if isinstance(node, ast.arguments):
                    self.assertEqual((node.vararg, node.kwarg, node.kwonlyargs, node.posonlyargs),
                                     (None, None, [], []))

    def test_top_of_a_file(self):
        for path, tree in self.each():
            self.assertIsNotNone(ast.get_docstring(tree))
            for node in tree.body[1:]:
                self.assertIsInstance(node, (ast.ImportFrom, ast.FunctionDef, ast.ClassDef, ast.Assign))
                if isinstance(node, ast.Assign):
                    self.assertIn(node.value.__class__, (ast.Constant, ast.UnaryOp, ast.Tuple, ast.List, ast.Dict))
            names = top_names(tree) + [one.name for node in imports(tree) for one in node.names]
            self.assertEqual(len(names), len(set(names)), "a name is bound twice")

    def test_imports(self):
        drawn = {}
        for path, tree in self.each():
            nodes = [node for node in ast.walk(tree) if isinstance(node, (ast.Import, ast.ImportFrom))]
            self.assertEqual(nodes, imports(tree))
            drawn[path.stem] = []
            for node in nodes:
                self.assertEqual((node.level, node.module.split(".")[0]), (0, "landdays"))
                other = FOLDER / (node.module.split(".")[1] + ".py")
                drawn[path.stem].append(other.stem)
                for one in node.names:
                    self.assertIsNone(one.asname)
                    self.assertIn(one.name, top_names(tree_of(other)))
                    uses = [use for use in ast.walk(tree) if isinstance(use, ast.Name) and use.id == one.name]
                    self.assertTrue(uses, f"{one.name} isn't used")
        while drawn:
            free = [name for name in drawn if not any(other in drawn for other in drawn[name])]
            self.assertTrue(free, f"files draw from one another: {sorted(drawn)}")
            for name in free:
                drawn.pop(name)

    def test_names(self):
        for path, tree in self.each():
            taken = [node.name for node in tree.body if isinstance(node, ast.ClassDef)]
            taken += [one.name for node in imports(tree) for one in node.names]
            bound = bound_names(tree)
            for name in bound:
                self.assertTrue(name == "__init__" or not name.startswith("_"), name)
                self.assertNotIn(name, dir(builtins))
                self.assertNotIn(name, UNUSED_NAMES)
            for node in ast.walk(tree):
                if isinstance(node, ast.arg):
                    self.assertNotIn(node.arg, taken)
                if isinstance(node, ast.Name) and isinstance(node.ctx, ast.Store):
                    self.assertNotIn(node.id, taken)
                if isinstance(node, ast.Name) and isinstance(node.ctx, ast.Load):
                    known = node.id in bound or node.id in taken or node.id in OWN_NAMES
                    self.assertTrue(known, f"{node.id} in row {node.lineno}")

    def test_tops_are_only_read(self):
        for path, tree in self.each():
            kept = [node.targets[0].id for node in tree.body
                    if isinstance(node, ast.Assign) and isinstance(node.value, (ast.List, ast.Dict))]
            parents = {child: node for node in ast.walk(tree) for child in ast.iter_child_nodes(node)}
            for node in ast.walk(tree):
                if isinstance(node, ast.Name) and node.id in kept and isinstance(node.ctx, ast.Load):
                    above = parents[node]
                    self.assertTrue(isinstance(above, ast.Compare) or isinstance(above, ast.Subscript)
                                    and isinstance(above.ctx, ast.Load), f"row {node.lineno}")

    def test_methods(self):
        for path, tree in self.each():
            for node in ast.walk(tree):
                if isinstance(node, ast.Call) and isinstance(node.func, ast.Attribute):
                    self.assertIn(node.func.attr, METHODS)
                if isinstance(node, ast.ClassDef):
                    self.assertEqual([one.name for one in node.body if isinstance(one, ast.FunctionDef)], ["__init__"])
                    self.assertIsNotNone(ast.get_docstring(node))
                    self.assertEqual(len(node.body), 2)

    def test_is(self):
        for path, tree in self.each():
            for node in ast.walk(tree):
                if isinstance(node, ast.Compare):
                    for sign, value in zip(node.ops, node.comparators):
                        if isinstance(sign, (ast.Is, ast.IsNot)):
                            self.assertIsInstance(value, ast.Constant)

    def test_walked_at_once(self):
        for path, tree in self.each():
            parents = {child: node for node in ast.walk(tree) for child in ast.iter_child_nodes(node)}
            for node in ast.walk(tree):
                if isinstance(node, ast.Call) and getattr(node.func, "id", "") in WALKED_AT_ONCE:
                    above = parents[node]
                    walked = isinstance(above, (ast.For, ast.comprehension)) and above.iter is node
                    handed = isinstance(above, ast.Call) and getattr(above.func, "id", "") in WALKERS
                    self.assertTrue(walked or handed, f"row {node.lineno}")
                if isinstance(node, (ast.Set, ast.Lambda)):
                    self.fail(f"row {node.lineno}: not used so far")


if __name__ == "__main__":
    unittest.main()
