"""The package keeps to its small part of Python, as far as a look at its files can tell.

The numbers (L1, L2 ..) are those of the rules in LANGUAGE.md.
"""

import ast
import builtins
import pathlib
import re
import unittest

PACKAGE = pathlib.Path(__file__).resolve().parent.parent / "roundedonce"
STATEMENTS = (ast.Assign, ast.AugAssign, ast.If, ast.While, ast.For, ast.Return, ast.Break, ast.Continue, ast.Pass,
              ast.Raise, ast.Try, ast.ExceptHandler, ast.Expr, ast.FunctionDef, ast.ClassDef, ast.ImportFrom)
EXPRESSIONS = (ast.Constant, ast.List, ast.Tuple, ast.Dict, ast.BinOp, ast.UnaryOp, ast.Compare, ast.BoolOp, ast.IfExp,
               ast.Call, ast.Attribute, ast.Subscript, ast.Slice, ast.ListComp, ast.Name, ast.JoinedStr,
               ast.FormattedValue, ast.Lambda, ast.keyword)
OTHERS = (ast.Module, ast.arguments, ast.arg, ast.alias, ast.comprehension, ast.operator, ast.unaryop, ast.cmpop,
          ast.boolop, ast.expr_context)
OWN_NAMES = set("""len range enumerate zip min max sum abs sorted reversed int str bool list tuple dict set frozenset
    isinstance ord repr any all divmod Exception ValueError TypeError KeyError IndexError LookupError
    ZeroDivisionError ArithmeticError OverflowError RuntimeError NotImplementedError AttributeError
    StopIteration""".split())
OWN_METHODS = set("""append clear copy count endswith extend find get index insert isalnum isalpha isdigit islower isspace
    isupper items join keys ljust lower lstrip partition pop remove replace reverse rfind rjust rpartition rsplit rstrip
    setdefault split splitlines startswith strip update upper values zfill bit_length""".split())
FORBIDDEN_WORDS = set("""type typing typing_extensions enum Enum IntEnum StrEnum Flag IntFlag Generic Protocol ABC ABCMeta
    namedtuple NamedTuple TypedDict TYPE_CHECKING abstractmethod""".split())
UNUSED_NAMES = set("""register mro elements open input version_info with_traceback add_note attrgetter breakpoint builtins
    compile copyright credits delattr dir eval exec exit gc getattr globals hasattr help id importlib license locals
    methodcaller os quit setattr super type vars sys __name__ format format_map""".split())
TAKEN_VALUES = {name for kind in (str, int, list, dict, set, bytes, tuple) for name in dir(kind)}


def bound_names(tree):
    for node in ast.walk(tree):
        if isinstance(node, (ast.FunctionDef, ast.ClassDef)):
            yield node.name
        elif isinstance(node, ast.arg):
            yield node.arg
        elif isinstance(node, ast.Name) and isinstance(node.ctx, ast.Store):
            yield node.id


def is_plain(node):
    """A plain value of a module's top: a whole number, a text, a tuple of such, a list or dict of all these."""
    if isinstance(node, ast.Dict):
        return all(is_flat(item) for item in node.keys + node.values)
    if isinstance(node, ast.List):
        return all(is_flat(item) for item in node.elts)
    return is_flat(node)


def is_flat(node):
    if isinstance(node, ast.Tuple):
        return all(is_flat(item) for item in node.elts)
    return isinstance(node, ast.Constant) and not isinstance(node.value, (float, bytes, complex))


class Language(unittest.TestCase):
    def setUp(self):
        self.files = {path: path.read_bytes().decode("ascii") for path in sorted(PACKAGE.glob("*.py"))}
        self.trees = {path: ast.parse(text) for path, text in self.files.items()}
        self.classes = {n.name for t in self.trees.values() for n in ast.walk(t) if isinstance(n, ast.ClassDef)}

    def nodes(self):
        for path, tree in self.trees.items():
            for node in ast.walk(tree):
                yield path.name, node

    def test_files(self):
        """L1, L14"""
        found = [path for path in PACKAGE.iterdir() if path.name != "__pycache__"]
        self.assertEqual(sorted(found), sorted(self.files))
        self.assertIn(PACKAGE / "__init__.py", self.files)
        for path in self.files:
            self.assertRegex(path.name, r"^[a-z0-9_]+\.py$")
            self.assertNotIn(path.stem, set(dir(builtins)) | FORBIDDEN_WORDS)

    def test_signs_and_sizes(self):
        """L10, L14"""
        for path, text in self.files.items():
            self.assertRegex(text, r"^[ -~\n]*$")
            rows = text.split("\n")
            self.assertLessEqual(len(rows), 400)
            self.assertLessEqual(max(len(row) for row in rows), 120)
        for name, node in self.nodes():
            if isinstance(node, ast.FunctionDef):
                self.assertLessEqual(node.end_lineno - node.lineno + 1, 40, (name, node.name))

    def test_imports(self):
        """L2, L16"""
        drawn = {}
        for path, tree in self.trees.items():
            drawn[path.stem] = set()
            for node in [n for n in ast.walk(tree) if isinstance(n, (ast.Import, ast.ImportFrom))]:
                self.assertIsInstance(node, ast.ImportFrom)
                self.assertIn(node, tree.body)
                self.assertEqual(node.level, 0)
                package, module = node.module.split(".")
                self.assertEqual(package, "roundedonce")
                drawn[path.stem].add(module)
                defined = self.top_names(self.trees[PACKAGE / (module + ".py")])
                for alias in node.names:
                    self.assertIsNone(alias.asname)
                    self.assertIn(alias.name, defined)
        while drawn:
            free = [name for name, others in drawn.items() if not others & set(drawn)]
            self.assertTrue(free, f"files that draw from one another: {sorted(drawn)}")
            for name in free:
                del drawn[name]

    def top_names(self, tree):
        names = [n.name for n in tree.body if isinstance(n, (ast.FunctionDef, ast.ClassDef))]
        return names + [n.targets[0].id for n in tree.body if isinstance(n, ast.Assign)]

    def test_imports_are_used(self):
        for path, tree in self.trees.items():
            used = {n.id for n in ast.walk(tree) if isinstance(n, ast.Name)}
            for node in tree.body:
                if isinstance(node, ast.ImportFrom):
                    self.assertEqual({alias.name for alias in node.names} - used, set(), path.name)

    def test_tops_of_files(self):
        """L3, L15"""
        for path, tree in self.trees.items():
            names = self.top_names(tree)
            self.assertEqual(len(names), len(set(names)), path.name)
            for node in tree.body:
                if isinstance(node, ast.Assign):
                    self.assertTrue(is_plain(node.value), (path.name, node.lineno))
                elif isinstance(node, ast.Expr):
                    self.assertIs(node, tree.body[0])
                else:
                    self.assertIsInstance(node, (ast.FunctionDef, ast.ClassDef, ast.ImportFrom))

    def test_statements_and_expressions(self):
        """L4 to L7, L13, L20, L21, L27"""
        for name, node in self.nodes():
            where = (name, getattr(node, "lineno", None), type(node).__name__)
            self.assertIsInstance(node, STATEMENTS + EXPRESSIONS + OTHERS, where)
            self.assertNotIsInstance(node, (ast.Div, ast.MatMult, ast.Starred), where)
            if isinstance(node, ast.Assign):
                self.assertEqual(len(node.targets), 1, where)
            if isinstance(node, (ast.For, ast.While)):
                self.assertEqual(node.orelse, [], where)
            if isinstance(node, ast.Constant):
                self.assertNotIsInstance(node.value, (float, bytes, complex), where)
                self.assertFalse(isinstance(node.value, str) and "%" in node.value, where)
            if isinstance(node, ast.Compare) and any(isinstance(op, (ast.Is, ast.IsNot)) for op in node.ops):
                self.assertTrue(all(isinstance(c, ast.Constant) for c in node.comparators), where)
            if isinstance(node, ast.FunctionDef):
                self.check_function(node, where)
            if isinstance(node, ast.BinOp):
                self.assertNotIsInstance(node.op, ast.Pow, where)
            if isinstance(node, ast.ListComp):
                self.assertEqual(len(node.generators), 1, where)
                self.assertLessEqual(len(node.generators[0].ifs), 1, where)

    def check_function(self, node, where):
        arguments = node.args
        self.assertEqual((node.decorator_list, node.returns, arguments.kwonlyargs, arguments.posonlyargs), ([], None, [], []))
        self.assertEqual((arguments.vararg, arguments.kwarg), (None, None), where)
        self.assertTrue(all(argument.annotation is None for argument in arguments.args), where)

    def test_names(self):
        """L8, L12, L15, L17, L18"""
        for path, tree in self.trees.items():
            imported = {a.name for n in tree.body if isinstance(n, ast.ImportFrom) for a in n.names}
            for name in bound_names(tree):
                self.assertRegex(name, r"^([A-Za-z][A-Za-z0-9_]*|__init__)$", path.name)
                self.assertNotIn(name, set(dir(builtins)) | UNUSED_NAMES | imported, path.name)
            known = imported | set(bound_names(tree)) | OWN_NAMES
            for node in ast.walk(tree):
                if isinstance(node, ast.Name):
                    self.assertIn(node.id, known, (path.name, node.lineno))
                if isinstance(node, (ast.FunctionDef, ast.Lambda)):
                    self.check_locals(path, node)

    def check_locals(self, path, node):
        for name in bound_names(node):
            if name != getattr(node, "name", None):
                self.assertNotIn(name, self.classes, path.name)

    def test_attributes(self):
        """L25, L26"""
        own = {n.attr for name, n in self.nodes() if isinstance(n, ast.Attribute) and isinstance(n.ctx, ast.Store)}
        self.assertEqual(own & TAKEN_VALUES, set())
        for name, node in self.nodes():
            if isinstance(node, ast.Attribute):
                self.assertIn(node.attr, own | OWN_METHODS, (name, node.lineno))

    def test_words(self):
        """L17"""
        for path, text in self.files.items():
            words = set(re.findall(r"[A-Za-z_][A-Za-z0-9_]*", text))
            self.assertEqual(words & FORBIDDEN_WORDS, set(), path.name)
            for part in ("dataclass", "overload", "contextmanager"):
                self.assertNotIn(part, text, path.name)


if __name__ == "__main__":
    unittest.main()
