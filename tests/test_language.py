"""The package keeps to the part of Python that it is held to (L1 to L28),
as far as this can be read off its files one by one."""

import ast
import builtins
import os
import re
import unittest

PACKAGE = os.path.join(os.path.dirname(os.path.dirname(os.path.abspath(__file__))), "owncopies")

ERRORS = """Exception ValueError TypeError KeyError IndexError LookupError ZeroDivisionError ArithmeticError
OverflowError RuntimeError NotImplementedError AttributeError StopIteration""".split()
BUILTINS = """len range enumerate zip min max sum abs sorted reversed int str bool list tuple dict set frozenset
isinstance ord repr any all divmod""".split() + ERRORS
METHODS = """append clear copy count endswith extend find get index insert isalnum isalpha isdigit islower isspace
isupper items join keys ljust lower lstrip partition pop remove replace reverse rfind rjust rpartition rsplit rstrip
setdefault split splitlines startswith strip update upper values zfill bit_length""".split()
SPECIAL = "__init__ __eq__ __repr__ __str__ __len__".split()
NOWHERE = """register mro elements open input version_info with_traceback add_note format format_map f_back tb_next
co_names""".split()
NOT_NAMES = """attrgetter breakpoint builtins compile copyright credits delattr dir eval exec exit gc getattr globals
hasattr help id importlib license locals methodcaller os quit setattr super type vars sys""".split()
WORDS = re.compile(r"""\b(type|typing|typing_extensions|enum|Enum|IntEnum|StrEnum|Flag|IntFlag|Generic|Protocol|ABC|
ABCMeta|namedtuple|NamedTuple|TypedDict|TYPE_CHECKING|abstractmethod)\b|dataclass|overload|contextmanager""", re.X)
STATEMENTS = (ast.Assign, ast.AugAssign, ast.If, ast.While, ast.For, ast.Return, ast.Break, ast.Continue, ast.Pass,
              ast.Raise, ast.Try, ast.Expr, ast.FunctionDef, ast.ClassDef, ast.ImportFrom)
REFUSED = (ast.Set, ast.SetComp, ast.DictComp, ast.GeneratorExp, ast.NamedExpr, ast.Starred, ast.Div, ast.MatMult,
           ast.Yield, ast.YieldFrom, ast.Await, ast.Global, ast.Nonlocal)
WALKED_AT_ONCE = "zip enumerate reversed range".split()


def files():
    return sorted(name for name in os.listdir(PACKAGE) if name != "__pycache__")


def source(name):
    with open(os.path.join(PACKAGE, name), encoding="utf-8", newline="") as file:
        return file.read()


def trees():
    return [(name, ast.parse(source(name))) for name in files()]


def nodes(kind):
    return [(name, node) for name, tree in trees() for node in ast.walk(tree) if isinstance(node, kind)]


def bound_names(node):
    if isinstance(node, ast.Name) and isinstance(node.ctx, ast.Store):
        return [node.id]
    if isinstance(node, (ast.FunctionDef, ast.ClassDef)):
        return [node.name]
    if isinstance(node, ast.arg):
        return [node.arg]
    return []


class Files(unittest.TestCase):
    def test_only_plainly_named_files(self):
        self.assertIn("__init__.py", files())
        for name in files():
            self.assertRegex(name, r"^(__init__|[a-z][a-z0-9_]*)\.py$")
            self.assertNotIn(name[:-3], dir(builtins))
            self.assertNotRegex(name, r"^(tests?|testing|test_.*|site|conftest|sitecustomize|usercustomize)\.py$")

    def test_signs_and_sizes(self):
        for name in files():
            self.assertRegex(source(name), r"\A[ -~\n]*\Z")
            self.assertIsNone(WORDS.search(source(name)), name)
            rows = source(name).split("\n")
            self.assertLessEqual(len(rows), 400, name)
            self.assertLessEqual(max(len(row) for row in rows), 120, name)

    def test_functions_are_short(self):
        for name, node in nodes(ast.FunctionDef):
            self.assertLessEqual(node.end_lineno - node.lineno + 1, 40, (name, node.name))


class Form(unittest.TestCase):
    def test_tops(self):
        for name, tree in trees():
            bound = []
            for k, node in enumerate(tree.body):
                docstring = k == 0 and isinstance(node, ast.Expr) and isinstance(node.value, ast.Constant)
                plain = isinstance(node, (ast.Assign, ast.ImportFrom, ast.FunctionDef, ast.ClassDef))
                self.assertTrue(docstring or plain, (name, node.lineno))
                if isinstance(node, ast.ImportFrom):
                    bound += [alias.name for alias in node.names]
                elif isinstance(node, ast.Assign):
                    ast.literal_eval(node.value)
                    bound += bound_names(node.targets[0])
                else:
                    bound += bound_names(node)
            self.assertEqual(len(bound), len(set(bound)), name)

    def test_imports(self):
        drawn = {}
        for name, node in nodes(ast.ImportFrom):
            self.assertEqual(node.level, 0)
            package, dot, module = node.module.partition(".")
            self.assertEqual(package + dot, "owncopies.", (name, node.lineno))
            self.assertTrue(all(alias.name != "*" and alias.asname is None for alias in node.names))
            defined = [given for top in ast.parse(source(module + ".py")).body if not isinstance(top, ast.ImportFrom)
                       for one in ([top] if not isinstance(top, ast.Assign) else top.targets)
                       for given in bound_names(one)]
            self.assertEqual([alias.name for alias in node.names if alias.name not in defined], [], name)
            drawn.setdefault(name, set()).add(module + ".py")
        while drawn:
            free = [name for name in drawn if not drawn[name] & set(drawn)]
            self.assertTrue(free, f"these draw from one another: {sorted(drawn)}")
            for name in free:
                del drawn[name]

    def test_statements(self):
        for name, node in nodes(ast.stmt):
            self.assertIsInstance(node, STATEMENTS, (name, node.lineno))
            if isinstance(node, ast.Assign):
                self.assertEqual(len(node.targets), 1, (name, node.lineno))
                self.assertNotIsInstance(node.targets[0], (ast.Tuple, ast.List), (name, node.lineno))
            if isinstance(node, (ast.For, ast.While)):
                self.assertEqual(node.orelse, [], (name, node.lineno))
            if isinstance(node, ast.Try):
                self.assertEqual(node.finalbody, [], (name, node.lineno))

    def test_expressions(self):
        for name, node in nodes(ast.AST):
            self.assertNotIsInstance(node, REFUSED, (name, getattr(node, "lineno", 0)))
            if isinstance(node, ast.Constant):
                self.assertNotIsInstance(node.value, (float, bytes, complex), (name, node.lineno))
            if isinstance(node, ast.ListComp):
                self.assertEqual(len(node.generators), 1, (name, node.lineno))
                self.assertLessEqual(len(node.generators[0].ifs), 1, (name, node.lineno))
            if isinstance(node, ast.Compare) and any(isinstance(op, (ast.Is, ast.IsNot)) for op in node.ops):
                self.assertIsInstance(node.comparators[0], ast.Constant, (name, node.lineno))

    def test_functions_and_classes(self):
        for name, node in nodes((ast.FunctionDef, ast.ClassDef)):
            self.assertEqual(node.decorator_list, [], (name, node.name))
        for name, node in nodes(ast.arguments):
            self.assertIsNone(node.vararg)
            self.assertIsNone(node.kwarg)
            self.assertEqual(node.kwonlyargs + node.posonlyargs, [])
        for name, node in nodes(ast.ClassDef):
            self.assertLessEqual(len(node.bases), 1)
            for part in node.body:
                self.assertIsInstance(part, (ast.FunctionDef, ast.Pass), (name, part.lineno))


class Names(unittest.TestCase):
    def test_names_that_are_bound(self):
        for name, node in nodes(ast.AST):
            for given in bound_names(node):
                plain = re.match(r"^[A-Za-z][A-Za-z0-9_]*$", given)
                self.assertTrue(plain or given in SPECIAL, (name, given))
                self.assertNotIn(given, dir(builtins), name)
                self.assertNotIn(given, NOWHERE + NOT_NAMES, name)

    def test_pythons_own_names(self):
        for name, node in nodes(ast.Name):
            if node.id in dir(builtins):
                self.assertIn(node.id, BUILTINS, (name, node.lineno))
            self.assertNotIn(node.id, NOWHERE + NOT_NAMES, (name, node.lineno))

    def test_no_local_is_called_like_a_class_or_an_import(self):
        for name, tree in trees():
            taken = [alias.name for node in tree.body if isinstance(node, ast.ImportFrom) for alias in node.names]
            taken += [node.name for node in tree.body if isinstance(node, ast.ClassDef)]
            for node in ast.walk(tree):
                if isinstance(node, (ast.Name, ast.arg)):
                    self.assertEqual([given for given in bound_names(node) if given in taken], [], name)

    def test_methods_and_values(self):
        methods = [part.name for name, node in nodes(ast.ClassDef) for part in node.body
                   if isinstance(part, ast.FunctionDef)]
        values = [node.attr for name, node in nodes(ast.Attribute) if isinstance(node.ctx, ast.Store)]
        self.assertEqual(sorted(set(methods) & set(values)), [])
        pythons_own = dir(str) + dir(int) + dir(list) + dir(dict) + dir(set) + dir(bytes)
        for given in methods + values:
            self.assertTrue(given in SPECIAL or given not in pythons_own, given)
        for name, node in nodes(ast.Attribute):
            self.assertNotIn(node.attr, NOWHERE, (name, node.lineno))
            self.assertIn(node.attr, METHODS + methods + values, (name, node.lineno))

    def test_walked_at_once(self):
        for name, node in nodes((ast.Assign, ast.Return)):
            called = node.value.func if isinstance(node.value, ast.Call) else None
            if isinstance(called, ast.Name):
                self.assertNotIn(called.id, WALKED_AT_ONCE + ["set", "frozenset"], (name, node.lineno))


if __name__ == "__main__":
    unittest.main()
