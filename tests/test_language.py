"""The form of the package's own files: what of the language's rules can be seen in the text and its tree."""

import ast
import builtins
import re
import unittest
from pathlib import Path

PACKAGE = Path(__file__).resolve().parent.parent / "callhouse"
FILES = sorted(PACKAGE.rglob("*.py"))

BUILT_IN = set("""len range enumerate zip min max sum abs sorted reversed int str bool list tuple dict set frozenset
isinstance ord repr any all divmod Exception ValueError TypeError KeyError IndexError LookupError ZeroDivisionError
ArithmeticError OverflowError RuntimeError NotImplementedError AttributeError StopIteration""".split())
METHODS = set("""append clear copy count endswith extend find get index insert isalnum isalpha isdigit islower isspace
isupper items join keys ljust lower lstrip partition pop remove replace reverse rfind rjust rpartition rsplit rstrip
setdefault split splitlines startswith strip update upper values zfill bit_length""".split())
BARRED_VALUES = set("""items keys values pop update append clear extend insert remove reverse setdefault sort args encode
format""".split())
FREE_VALUES = set("count index title find get join lower upper split strip copy add".split())
BARRED_NAMES = set("""register mro elements open input version_info with_traceback add_note attrgetter breakpoint builtins
compile copyright credits delattr dir eval exec exit gc getattr globals hasattr help id importlib license locals
methodcaller os quit setattr super type vars sys chr""".split())
BARRED_WORDS = """type typing typing_extensions enum Enum IntEnum StrEnum Flag IntFlag Generic Protocol ABC ABCMeta
namedtuple NamedTuple TypedDict TYPE_CHECKING abstractmethod""".split()
NODES = (ast.Module, ast.FunctionDef, ast.ClassDef, ast.Return, ast.Assign, ast.For, ast.While, ast.If, ast.Raise, ast.Try,
         ast.ImportFrom, ast.Expr, ast.Pass, ast.Break, ast.Continue, ast.BoolOp, ast.BinOp, ast.UnaryOp, ast.IfExp,
         ast.Dict, ast.ListComp, ast.Compare, ast.Call, ast.Constant, ast.Attribute, ast.Subscript, ast.Name, ast.List,
         ast.Tuple, ast.Slice, ast.comprehension, ast.ExceptHandler, ast.arguments, ast.arg, ast.keyword, ast.alias,
         ast.expr_context, ast.boolop, ast.operator, ast.unaryop, ast.cmpop)
NAMES_OF_PYTHON = [name for name in dir(builtins) if not name.startswith("_")]
OWN_OF_PYTHON = set().union(*(dir(kind) for kind in (str, int, list, tuple, dict, set, frozenset, bytes)))


def trees():
    return [(path, ast.parse(path.read_text(encoding="ascii"))) for path in FILES]


def nodes(*kinds):
    return [(path.name, node) for path, tree in trees() for node in ast.walk(tree) if isinstance(node, kinds)]


def bound_names(tree):
    """Every name that a file binds, with the node that binds it."""
    found = []
    for node in ast.walk(tree):
        if isinstance(node, (ast.FunctionDef, ast.ClassDef)):
            found.append((node.name, node))
        elif isinstance(node, ast.arg):
            found.append((node.arg, node))
        elif isinstance(node, ast.Name) and isinstance(node.ctx, ast.Store):
            found.append((node.id, node))
    return found


class Files(unittest.TestCase):
    def test_only_plain_files_lie_in_the_package(self):
        for path in PACKAGE.rglob("*"):
            if "__pycache__" not in path.parts:
                self.assertRegex(path.name, r"\A(__init__|[a-z][a-z0-9_]*)\.py\Z")
                self.assertNotIn(path.stem, NAMES_OF_PYTHON)

    def test_signs_and_sizes(self):
        for path in FILES:
            text = path.read_bytes()
            self.assertTrue(all(byte == 10 or 32 <= byte <= 126 for byte in text), path)
            lines = text.decode("ascii").split("\n")
            self.assertLessEqual(len(lines), 400, path)
            self.assertLessEqual(max(map(len, lines)), 120, path)

    def test_words_that_stand_nowhere(self):
        for path in FILES:
            words = re.findall(r"\w+", path.read_text())
            self.assertEqual([word for word in words if word in BARRED_WORDS], [], path)
            self.assertNotRegex(path.read_text(), "dataclass|overload|contextmanager")

    def test_functions_are_short(self):
        for name, node in nodes(ast.FunctionDef):
            self.assertLessEqual(node.end_lineno - node.lineno + 1, 40, (name, node.name))


class Forms(unittest.TestCase):
    def test_only_known_forms(self):
        for path, tree in trees():
            for node in ast.walk(tree):
                self.assertIsInstance(node, NODES, (path.name, getattr(node, "lineno", 0)))

    def test_small_print(self):
        for name, node in nodes(ast.FunctionDef, ast.ClassDef):
            self.assertEqual(node.decorator_list, [], (name, node.name))
        for name, node in nodes(ast.arguments):
            self.assertEqual((node.vararg, node.kwarg, node.kwonlyargs, node.posonlyargs), (None, None, [], []), name)
        for name, node in nodes(ast.For, ast.While):
            self.assertEqual(node.orelse, [], (name, node.lineno))
        for name, node in nodes(ast.Assign):
            self.assertEqual(len(node.targets), 1, (name, node.lineno))
            self.assertNotIsInstance(node.targets[0], (ast.Tuple, ast.List), (name, node.lineno))
        for name, node in nodes(ast.ListComp):
            self.assertEqual(len(node.generators), 1, (name, node.lineno))
            self.assertLessEqual(len(node.generators[0].ifs), 1, (name, node.lineno))
        for name, node in nodes(ast.BinOp):
            self.assertNotIsInstance(node.op, (ast.Div, ast.Pow, ast.MatMult), (name, node.lineno))
        for name, node in nodes(ast.Constant):
            self.assertIn(type(node.value), (int, str, bool, type(None)), (name, node.lineno))
            self.assertFalse(isinstance(node.value, str) and "%" in node.value, (name, node.lineno))

    def test_only_calls_stand_by_themselves(self):
        for path, tree in trees():
            self.assertIsNotNone(ast.get_docstring(tree), path)
            for node in ast.walk(tree):
                if isinstance(node, ast.Expr) and node is not tree.body[0]:
                    self.assertIsInstance(node.value, ast.Call, (path.name, node.lineno))

    def test_is_stands_beside_plain_values_alone(self):
        for name, node in nodes(ast.Compare):
            if any(isinstance(op, (ast.Is, ast.IsNot)) for op in node.ops):
                self.assertIsInstance(node.comparators[0], ast.Constant, (name, node.lineno))
                self.assertIn(node.comparators[0].value, (None, True, False), (name, node.lineno))

    def test_the_top_of_a_file(self):
        for path, tree in trees():
            names = []
            for node in tree.body[1:]:
                self.assertIsInstance(node, (ast.ImportFrom, ast.FunctionDef, ast.ClassDef, ast.Assign), path.name)
                if isinstance(node, ast.ImportFrom):
                    names += [alias.asname or alias.name for alias in node.names]
                elif isinstance(node, ast.Assign):
                    names.append(node.targets[0].id)
                    kinds = (ast.Constant, ast.Tuple, ast.Dict, ast.expr_context, ast.UnaryOp, ast.unaryop)
                    self.assertTrue(all(isinstance(part, kinds) for part in ast.walk(node.value)), (path, node.lineno))
                else:
                    names.append(node.name)
            self.assertEqual(len(names), len(set(names)), path)


class Names(unittest.TestCase):
    def test_plain_and_of_nobody_else(self):
        for path, tree in trees():
            for name, node in bound_names(tree):
                where = (path.name, node.lineno, name)
                if name != "__init__":
                    self.assertRegex(name, r"\A[A-Za-z][A-Za-z0-9_]*\Z", where)
                self.assertNotIn(name, NAMES_OF_PYTHON, where)
                self.assertNotIn(name, BARRED_NAMES, where)

    def test_locals_are_not_called_like_what_stands_at_the_top(self):
        for path, tree in trees():
            top = set()
            for node in tree.body:
                top |= {alias.name for alias in node.names} if isinstance(node, ast.ImportFrom) else set()
                top |= {node.name} if isinstance(node, (ast.ClassDef, ast.FunctionDef)) else set()
            for function in [node for node in ast.walk(tree) if isinstance(node, ast.FunctionDef)]:
                inner = {name for name, node in bound_names(function) if node is not function}
                self.assertEqual(inner & top, set(), (path.name, function.name))

    def test_names_that_are_read(self):
        for path, tree in trees():
            bound = {name for name, node in bound_names(tree)}
            for node in ast.walk(tree):
                if isinstance(node, ast.ImportFrom):
                    bound |= {alias.name for alias in node.names}
            for node in ast.walk(tree):
                if isinstance(node, ast.Name):
                    self.assertIn(node.id, bound | BUILT_IN, (path.name, node.lineno))

    def test_methods_and_values(self):
        own = {node.name for name, node in nodes(ast.FunctionDef)}
        values = {node.attr for name, node in nodes(ast.Attribute) if isinstance(node.ctx, ast.Store)}
        called = {id(node.func) for name, node in nodes(ast.Call)}
        methods = set()
        for name, node in nodes(ast.ClassDef):
            self.assertTrue(all(isinstance(part, ast.FunctionDef) for part in node.body), (name, node.name))
            methods |= {part.name for part in node.body}
        self.assertEqual(methods & values, set())
        self.assertEqual(values & BARRED_VALUES, set())
        self.assertEqual((values - FREE_VALUES) & OWN_OF_PYTHON, set())
        self.assertEqual((methods - METHODS - {"__init__", "add", "discard"}) & OWN_OF_PYTHON, set())
        for name, node in nodes(ast.Call):
            if isinstance(node.func, ast.Attribute):
                self.assertIn(node.func.attr, METHODS | own, (name, node.lineno))
            allowed = {"key", "reverse", "default", "start", "strict"}
            self.assertLessEqual({word.arg for word in node.keywords}, allowed, (name, node.lineno))


class Imports(unittest.TestCase):
    def test_only_own_files_and_the_file_that_defines_the_name(self):
        for path, tree in trees():
            for node in ast.walk(tree):
                if isinstance(node, ast.ImportFrom):
                    self.assertRegex(node.module, r"\Acallhouse\.[a-z]+\Z")
                    self.assertEqual(node.level, 0)
                    self.assertIn(node, tree.body)
                    source = ast.parse((PACKAGE / (node.module.split(".")[1] + ".py")).read_text())
                    defined = {name for name, where in bound_names(ast.Module(source.body, []))}
                    self.assertLessEqual({alias.name for alias in node.names}, defined, path)

    def test_no_file_draws_from_itself(self):
        drawn = {path.stem: {node.module.split(".")[1] for node in tree.body if isinstance(node, ast.ImportFrom)}
                 for path, tree in trees()}
        self.assertEqual(drawn["__init__"], set())
        while drawn:
            free = [name for name in drawn if not drawn[name] & set(drawn)]
            self.assertNotEqual(free, [], "some files draw from one another")
            for name in free:
                drawn.pop(name)

    def test_every_import_is_used(self):
        for path, tree in trees():
            used = {node.id for node in ast.walk(tree) if isinstance(node, ast.Name)}
            for node in tree.body:
                if isinstance(node, ast.ImportFrom):
                    self.assertLessEqual({alias.name for alias in node.names}, used, path)


if __name__ == "__main__":
    unittest.main()
