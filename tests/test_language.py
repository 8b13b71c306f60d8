"""The package keeps to the small part of Python that it is to be written in.

Only what can be seen from the text of one file or of all is looked at here, rule by rule.
"""

import ast
import builtins
import pathlib
import re
import unittest

import bodieswing

FOLDER = pathlib.Path(bodieswing.__file__).parent
FILES = sorted(FOLDER.glob("*.py"))
STATEMENTS = (ast.Assign, ast.AugAssign, ast.If, ast.While, ast.For, ast.Return, ast.Break, ast.Continue, ast.Pass,
              ast.Raise, ast.Try, ast.Expr, ast.FunctionDef, ast.ClassDef, ast.ImportFrom)
EXPRESSIONS = (ast.BinOp, ast.UnaryOp, ast.BoolOp, ast.Compare, ast.IfExp, ast.Call, ast.Attribute, ast.Subscript,
               ast.Slice, ast.ListComp, ast.JoinedStr, ast.FormattedValue, ast.Constant, ast.Name, ast.List,
               ast.Tuple, ast.Dict, ast.Lambda, ast.Set)
ALLOWED = set("""len range enumerate zip min max sum abs sorted reversed int str bool list tuple dict set frozenset
    isinstance ord repr any all divmod Exception ValueError TypeError KeyError IndexError LookupError
    ZeroDivisionError ArithmeticError OverflowError RuntimeError NotImplementedError AttributeError
    StopIteration""".split())
METHODS = set("""append clear copy count endswith extend find get index insert isalnum isalpha isdigit islower isspace
    isupper items join keys ljust lower lstrip partition pop remove replace reverse rfind rjust rpartition rsplit
    rstrip setdefault split splitlines startswith strip update upper values zfill bit_length""".split())
WORDS = """type typing typing_extensions enum Enum IntEnum StrEnum Flag IntFlag Generic Protocol ABC ABCMeta
    namedtuple NamedTuple TypedDict TYPE_CHECKING abstractmethod""".split()


def trees():
    return [(path, ast.parse(path.read_text(encoding="utf-8"))) for path in FILES]


def own_methods_and_values():
    """The names of methods, and of values given to objects, in the whole package."""
    methods, values = set(), set()
    for path, tree in trees():
        for node in ast.walk(tree):
            if isinstance(node, ast.ClassDef):
                methods |= {part.name for part in node.body if isinstance(part, ast.FunctionDef)}
            if isinstance(node, ast.Attribute) and isinstance(node.ctx, ast.Store):
                values.add(node.attr)
    return methods, values


def bound_names(tree):
    """Every name that is bound somewhere in a file."""
    for node in ast.walk(tree):
        if isinstance(node, ast.Name) and isinstance(node.ctx, ast.Store):
            yield node, node.id
        elif isinstance(node, (ast.FunctionDef, ast.ClassDef)):
            yield node, node.name
        elif isinstance(node, ast.arg):
            yield node, node.arg
        elif isinstance(node, ast.ExceptHandler) and node.name:
            yield node, node.name


class Language(unittest.TestCase):
    def where(self, path, node):
        return f"{path.name}:{getattr(node, 'lineno', 0)}"

    def test_files(self):
        inside = [path for path in FOLDER.rglob("*") if "__pycache__" not in path.parts]
        self.assertEqual(sorted(inside), FILES)
        for path in FILES:
            self.assertRegex(path.name, r"^([a-z][a-z0-9_]*|__init__)\.py$")
            self.assertNotIn(path.stem, dir(builtins))

    def test_signs_and_sizes(self):
        for path in FILES:
            text = path.read_bytes().decode("utf-8")
            self.assertEqual([x for x in text if x != "\n" and not " " <= x <= "~"], [], path.name)
            lines = text.split("\n")
            self.assertLessEqual(len(lines), 400, path.name)
            self.assertLessEqual(max(map(len, lines)), 120, path.name)
            for word in WORDS:
                self.assertIsNone(re.search(rf"\b{word}\b", text), (path.name, word))
            self.assertIsNone(re.search("dataclass|overload|contextmanager", text), path.name)

    def test_statements_and_expressions(self):
        for path, tree in trees():
            for node in ast.walk(tree):
                if isinstance(node, ast.stmt):
                    self.assertIsInstance(node, STATEMENTS, self.where(path, node))
                if isinstance(node, ast.expr):
                    self.assertIsInstance(node, EXPRESSIONS, self.where(path, node))
                if isinstance(node, (ast.For, ast.While)):
                    self.assertEqual(node.orelse, [], self.where(path, node))
                if isinstance(node, ast.Try):
                    self.assertEqual(node.finalbody, [], self.where(path, node))
                if isinstance(node, ast.Assign):
                    self.assertEqual(len(node.targets), 1, self.where(path, node))
                    self.assertNotIsInstance(node.targets[0], (ast.Tuple, ast.List), self.where(path, node))
                self.assertNotIsInstance(node, (ast.Div, ast.MatMult, ast.Pow, ast.Starred), self.where(path, node))

    def test_values(self):
        for path, tree in trees():
            for node in ast.walk(tree):
                if isinstance(node, ast.Constant):
                    self.assertIn(type(node.value), (int, str, bool, type(None)), self.where(path, node))
                    self.assertFalse(isinstance(node.value, str) and "%" in node.value, self.where(path, node))
                if isinstance(node, ast.FormattedValue):
                    self.assertIsInstance(node.value, ast.Name, self.where(path, node))
                    self.assertIsNone(node.format_spec, self.where(path, node))
                if isinstance(node, ast.Compare) and isinstance(node.ops[0], (ast.Is, ast.IsNot)):
                    self.assertIn(node.comparators[0].value, (None, True, False), self.where(path, node))

    def test_functions_and_classes(self):
        for path, tree in trees():
            for node in ast.walk(tree):
                if isinstance(node, ast.FunctionDef):
                    given = node.args
                    self.assertLessEqual(node.end_lineno - node.lineno + 1, 40, self.where(path, node))
                    self.assertEqual([given.posonlyargs, given.kwonlyargs, given.vararg, given.kwarg], [[], [], None, None])
                    self.assertEqual([node.decorator_list, node.returns], [[], None], self.where(path, node))
                if isinstance(node, ast.ClassDef):
                    self.assertLessEqual(len(node.bases), 1, self.where(path, node))
                    self.assertEqual([node.decorator_list, node.keywords], [[], []], self.where(path, node))
                    for part in node.body:
                        self.assertIsInstance(part, (ast.FunctionDef, ast.Expr), self.where(path, part))

    def test_names(self):
        builtin = set(dir(builtins))
        for path, tree in trees():
            for node, name in bound_names(tree):
                self.assertNotIn(name, builtin, self.where(path, node))
                self.assertTrue(name == "__init__" or re.fullmatch("[A-Za-z][A-Za-z0-9_]*", name), self.where(path, node))
            for node in ast.walk(tree):
                if isinstance(node, ast.Name) and node.id in builtin:
                    self.assertIn(node.id, ALLOWED, self.where(path, node))

    def test_locals_are_not_called_like_imports_or_classes(self):
        for path, tree in trees():
            taken = {x.name for node in tree.body if isinstance(node, ast.ImportFrom) for x in node.names}
            taken |= {node.name for node in tree.body if isinstance(node, ast.ClassDef)}
            for node, name in bound_names(tree):
                if not isinstance(node, ast.ClassDef):
                    self.assertNotIn(name, taken, self.where(path, node))

    def test_methods(self):
        methods, values = own_methods_and_values()
        self.assertEqual(methods & values, set())
        python = set()
        for kind in (str, int, list, dict, set, bytes, tuple, float):
            python |= set(dir(kind))
        self.assertEqual((methods | values) & python - {"__init__"}, set())
        for path, tree in trees():
            for node in ast.walk(tree):
                if isinstance(node, ast.Attribute):
                    self.assertIn(node.attr, methods | values | METHODS, self.where(path, node))

    def test_the_top_of_a_file(self):
        for path, tree in trees():
            self.assertIsNotNone(ast.get_docstring(tree), path.name)
            names = []
            for node in tree.body[1:]:
                self.assertIsInstance(node, (ast.ImportFrom, ast.FunctionDef, ast.ClassDef, ast.Assign))
                if isinstance(node, ast.Assign):
                    names.append(node.targets[0].id)
                    for part in ast.walk(node.value):
                        self.assertNotIsInstance(part, (ast.Call, ast.BinOp), self.where(path, node))
                elif not isinstance(node, ast.ImportFrom):
                    names.append(node.name)
            self.assertEqual(len(names), len(set(names)), path.name)

    def test_imports(self):
        defined, drawn = {}, {}
        for path, tree in trees():
            defined[path.stem] = {getattr(node, "name", None) or node.targets[0].id for node in tree.body
                                  if isinstance(node, (ast.FunctionDef, ast.ClassDef, ast.Assign))}
            drawn[path.stem] = [node for node in tree.body if isinstance(node, ast.ImportFrom)]
        self.assertEqual(drawn["__init__"], [])
        for stem, rows in drawn.items():
            for row in rows:
                package, source = row.module.split(".")
                self.assertEqual((package, row.level), ("bodieswing", 0), stem)
                for name in row.names:
                    self.assertIn(name.name, defined[source], stem)
                    self.assertIsNone(name.asname, stem)
        left = {stem: {row.module.split(".")[1] for row in rows} for stem, rows in drawn.items()}
        while left:
            free = [stem for stem in left if not left[stem] & set(left)]
            self.assertNotEqual(free, [], "files draw from one another")
            for stem in free:
                left.pop(stem)


if __name__ == "__main__":
    unittest.main()
