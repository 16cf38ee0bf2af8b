"""Holds the package's files against the rules of the language that a reader of the text alone can check."""

import ast
import builtins
import pathlib
import re
import unittest

PACKAGE = pathlib.Path(__file__).resolve().parent.parent / "tellscolumns"
STATEMENTS = (ast.Assign, ast.AugAssign, ast.If, ast.While, ast.For, ast.Return, ast.Break, ast.Continue, ast.Pass,
              ast.Raise, ast.Try, ast.Expr, ast.FunctionDef, ast.ClassDef, ast.ImportFrom)
EXPRESSIONS = (ast.Constant, ast.JoinedStr, ast.FormattedValue, ast.List, ast.Tuple, ast.Dict, ast.BinOp, ast.UnaryOp,
               ast.BoolOp, ast.Compare, ast.IfExp, ast.Call, ast.Attribute, ast.Subscript, ast.Slice, ast.ListComp,
               ast.Lambda, ast.Name)
OWN_NAMES = """len range enumerate zip min max sum abs sorted reversed int str bool list tuple dict set frozenset
isinstance ord repr any all divmod Exception ValueError TypeError KeyError IndexError LookupError ZeroDivisionError
ArithmeticError OverflowError RuntimeError NotImplementedError AttributeError StopIteration""".split()
METHODS = """append clear copy count endswith extend find get index insert isalnum isalpha isdigit islower isspace isupper
items join keys ljust lower lstrip partition pop remove replace reverse rfind rjust rpartition rsplit rstrip setdefault
split splitlines startswith strip update upper values zfill bit_length""".split()
DUNDERS = "__init__ __eq__ __repr__ __str__ __len__".split()
WORDS = """type typing typing_extensions enum Enum IntEnum StrEnum Flag IntFlag Generic Protocol ABC ABCMeta namedtuple
NamedTuple TypedDict TYPE_CHECKING abstractmethod""".split()
WALKED = "zip enumerate reversed range items keys values".split()
WALKERS = "list tuple dict sorted sum any all enumerate zip min max".split()
KEYWORDS = {"sorted": ["key", "reverse"], "min": ["key", "default"], "max": ["key", "default"], "sum": ["start"],
            "enumerate": ["start"], "zip": ["strict"]}


def files():
    return sorted(PACKAGE.glob("*.py"))


def trees():
    return [(path, ast.parse(path.read_text(encoding="utf-8"))) for path in files()]


def nodes(kind):
    return [(path, node) for path, tree in trees() for node in ast.walk(tree) if isinstance(node, kind)]


def called(node):
    """The name that a call calls, of a method its last word; "" for what is no call."""
    if not isinstance(node, ast.Call):
        return ""
    return node.func.id if isinstance(node.func, ast.Name) else node.func.attr


class Language(unittest.TestCase):
    def test_files(self):
        there = [path.name for path in PACKAGE.iterdir() if path.name != "__pycache__"]
        self.assertEqual(sorted(there), [path.name for path in files()])
        for name in ["__init__", "errors", "rules", "tables", "answers", "telling", "parts", "examples", "texts"]:
            self.assertIn(name + ".py", there)
        for name in there:
            self.assertRegex(name, r"^([a-z][a-z0-9_]*|__init__)\.py$")
            self.assertNotIn(name[:-3], dir(builtins))

    def test_signs_and_sizes(self):
        for path in files():
            lines = path.read_text(encoding="utf-8").split("\n")
            self.assertLessEqual(len(lines), 400)
            for line in lines:
                self.assertRegex(line, r"^[ -~]{0,120}$", path)
        for path, node in nodes(ast.FunctionDef):
            self.assertLessEqual(node.end_lineno - node.lineno + 1, 40, (path, node.name))

    def test_words(self):
        for path in files():
            found = re.findall(r"\w+", path.read_text(encoding="utf-8"))
            self.assertEqual([word for word in found if word in WORDS], [], path)

    def test_imports(self):
        drawn = {}
        for path, node in nodes((ast.Import, ast.ImportFrom)):
            self.assertIsInstance(node, ast.ImportFrom, path)
            self.assertEqual(node.level, 0)
            self.assertRegex(node.module, r"^tellscolumns\.[a-z]+$")
            self.assertTrue(all(name.name != "*" and name.asname is None for name in node.names))
            drawn.setdefault(path.stem, []).append(node.module.split(".")[1])
        self.assertNotIn("__init__", drawn)
        while drawn:
            done = [stem for stem in drawn if not any(other in drawn for other in drawn[stem])]
            self.assertTrue(done, drawn)
            drawn = {stem: drawn[stem] for stem in drawn if stem not in done}

    def test_the_top_of_a_file(self):
        for path, tree in trees():
            self.assertIsInstance(ast.get_docstring(tree), str)
            bound = []
            for node in tree.body[1:]:
                self.assertIsInstance(node, (ast.ImportFrom, ast.FunctionDef, ast.ClassDef, ast.Assign), path)
                if isinstance(node, ast.Assign):
                    self.assertIsInstance(node.value, ast.Constant)
                    bound.append(node.targets[0].id)
                elif isinstance(node, ast.ImportFrom):
                    bound += [name.name for name in node.names]
                else:
                    bound.append(node.name)
            self.assertEqual(len(bound), len(set(bound)), path)

    def test_statements(self):
        for path, node in nodes(ast.stmt):
            place = (path.name, node.lineno)
            self.assertIsInstance(node, STATEMENTS, place)
            if isinstance(node, ast.Expr) and node.lineno > 1:
                self.assertIsInstance(node.value, ast.Call, place)
            if isinstance(node, ast.Assign):
                self.assertEqual(len(node.targets), 1, place)
                self.assertNotIsInstance(node.targets[0], (ast.Tuple, ast.List), place)
            if isinstance(node, (ast.For, ast.While)):
                self.assertEqual(node.orelse, [], place)

    def test_expressions(self):
        for path, node in nodes(ast.expr):
            place = (path.name, node.lineno)
            self.assertIsInstance(node, EXPRESSIONS, place)
            if isinstance(node, ast.Constant):
                self.assertIn(type(node.value), (int, str, bool, type(None)), place)
            if isinstance(node, ast.BinOp):
                self.assertNotIsInstance(node.op, (ast.Div, ast.MatMult, ast.Pow), place)
            if isinstance(node, ast.ListComp):
                self.assertEqual(len(node.generators), 1, place)
                self.assertLessEqual(len(node.generators[0].ifs), 1, place)
            if isinstance(node, ast.Compare):
                self.assertFalse(any(isinstance(op, (ast.Is, ast.IsNot)) for op in node.ops), place)

    def test_defs(self):
        for path, node in nodes(ast.FunctionDef):
            given = node.args
            self.assertEqual(node.decorator_list, [])
            self.assertFalse(given.vararg or given.kwarg or given.kwonlyargs or given.posonlyargs, node.name)
            self.assertIsNone(node.returns)
            self.assertTrue(all(one.annotation is None for one in given.args))

    def test_classes(self):
        methods, values = set(), set()
        for path, node in nodes(ast.ClassDef):
            self.assertLessEqual(len(node.bases), 1)
            self.assertEqual((node.keywords, node.decorator_list), ([], []))
            self.assertTrue(all(isinstance(one, (ast.FunctionDef, ast.Pass)) for one in node.body), node.name)
            methods |= {one.name for one in node.body if isinstance(one, ast.FunctionDef)}
            values |= {one.attr for one in ast.walk(node)
                       if isinstance(one, ast.Attribute) and isinstance(one.ctx, ast.Store)}
        self.assertEqual(methods & values, set())
        for kind in [str, int, list, dict, set, bytes, tuple]:
            self.assertEqual((methods | values) & (set(dir(kind)) - set(DUNDERS)), set())

    def test_names(self):
        tops = [node.name for path, node in nodes((ast.FunctionDef, ast.ClassDef))]
        bound = [node.id for path, node in nodes(ast.Name) if isinstance(node.ctx, ast.Store)]
        bound += [node.arg for path, node in nodes(ast.arg)] + tops
        for name in bound:
            self.assertTrue(name in DUNDERS or not name.startswith("_"), name)
            self.assertNotIn(name, dir(builtins))
        for path, node in nodes(ast.Name):
            if node.id in dir(builtins):
                self.assertIn(node.id, OWN_NAMES, (path.name, node.lineno))
        for path, node in nodes(ast.Call):
            if isinstance(node.func, ast.Attribute):
                self.assertIn(node.func.attr, METHODS + tops, (path.name, node.lineno))

    def test_sets_are_only_sorted(self):
        for path, tree in trees():
            inner = [node.args[0] for node in ast.walk(tree) if isinstance(node, ast.Call)
                     and isinstance(node.func, ast.Name) and node.func.id == "sorted"]
            for node in ast.walk(tree):
                if isinstance(node, ast.Call) and isinstance(node.func, ast.Name) and node.func.id == "set":
                    self.assertIn(node, inner, (path.name, node.lineno))

    def test_no_local_is_called_like_a_class_or_an_import(self):
        for path, tree in trees():
            taken = [node.name for node in tree.body if isinstance(node, (ast.ClassDef, ast.FunctionDef))]
            taken += [name.name for node in tree.body if isinstance(node, ast.ImportFrom) for name in node.names]
            tops = [name for node in tree.body if isinstance(node, ast.Assign) for name in node.targets]
            for node in ast.walk(tree):
                if isinstance(node, ast.arg):
                    self.assertNotIn(node.arg, taken, path.name)
                if isinstance(node, ast.Name) and isinstance(node.ctx, ast.Store) and node not in tops:
                    self.assertNotIn(node.id, taken, (path.name, node.lineno))

    def test_imports_are_of_what_a_file_defines_and_used(self):
        defined = {}
        for path, tree in trees():
            defined[path.stem] = [node.name for node in tree.body if isinstance(node, (ast.ClassDef, ast.FunctionDef))]
            defined[path.stem] += [node.targets[0].id for node in tree.body if isinstance(node, ast.Assign)]
        for path, tree in trees():
            used = [node.id for node in ast.walk(tree) if isinstance(node, ast.Name)]
            for node in tree.body:
                if isinstance(node, ast.ImportFrom):
                    for name in node.names:
                        self.assertIn(name.name, defined[node.module.split(".")[1]], path.name)
                        self.assertIn(name.name, used, path.name)

    def test_keywords(self):
        for path, node in nodes(ast.Call):
            allowed = KEYWORDS.get(called(node), [])
            self.assertTrue(all(one.arg in allowed for one in node.keywords), (path.name, node.lineno))

    def test_walked_at_once(self):
        for path, tree in trees():
            places = [node.iter for node in ast.walk(tree) if isinstance(node, (ast.For, ast.comprehension))]
            places += [arg for node in ast.walk(tree) if called(node) in WALKERS for arg in node.args]
            for node in ast.walk(tree):
                if called(node) in WALKED:
                    self.assertIn(node, places, (path.name, node.lineno))
