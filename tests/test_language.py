"""The package's files keep to the part of Python that is allowed. Not every rule can be seen from here."""

import ast
import builtins
import pathlib
import re
import unittest

PACKAGE = pathlib.Path(__file__).resolve().parent.parent / "talkrooms"
FILES = sorted(PACKAGE.rglob("*.py"))

STATEMENTS = (ast.Assign, ast.AugAssign, ast.If, ast.While, ast.For, ast.Return, ast.Break, ast.Continue, ast.Pass,
              ast.Raise, ast.Try, ast.Expr, ast.FunctionDef, ast.ClassDef, ast.ImportFrom)
BARRED = (ast.JoinedStr, ast.SetComp, ast.DictComp, ast.GeneratorExp, ast.NamedExpr, ast.Starred, ast.Div,
          ast.Yield, ast.YieldFrom, ast.Await, ast.Set)
NAMES = set("""len range enumerate zip min max sum abs sorted reversed int str bool list tuple dict set frozenset
    isinstance ord repr any all divmod Exception ValueError TypeError KeyError IndexError LookupError
    ZeroDivisionError ArithmeticError OverflowError RuntimeError NotImplementedError AttributeError
    StopIteration""".split())
METHODS = set("""append clear copy count endswith extend find get index insert isalnum isalpha isdigit islower isspace
    isupper items join keys ljust lower lstrip partition pop remove replace reverse rfind rjust rpartition rsplit
    rstrip setdefault split splitlines startswith strip update upper values zfill bit_length""".split())
WORDS = re.compile(r"\b(type|typing|typing_extensions|enum|Enum|IntEnum|StrEnum|Flag|IntFlag|Generic|Protocol|ABC|"
                   r"ABCMeta|namedtuple|NamedTuple|TypedDict|TYPE_CHECKING|abstractmethod|register|mro|elements|open|"
                   r"input|eval|exec|getattr|setattr|super|vars|globals|locals|sys|os)\b|dataclass|overload|"
                   r"contextmanager")
DUNDER_METHODS = ("__init__", "__eq__", "__repr__", "__str__", "__len__")


def nodes_of(kind):
    for path in FILES:
        for node in ast.walk(ast.parse(path.read_text())):
            if isinstance(node, kind):
                yield path.name, node


class Files(unittest.TestCase):
    def test_nothing_else_lies_in_the_package(self):
        for path in PACKAGE.rglob("*"):
            if "__pycache__" not in path.parts:
                self.assertRegex(path.name, r"^([a-z][a-z0-9_]*|__init__)\.py$")

    def test_signs_and_sizes(self):
        for path in FILES:
            text = path.read_bytes().decode("ascii")
            self.assertRegex(text, r"\A[ -~\n]*\Z", path.name)
            rows = text.split("\n")
            self.assertLessEqual(len(rows), 399, path.name)
            self.assertLessEqual(max(map(len, rows)), 120, path.name)
        for name, node in nodes_of(ast.FunctionDef):
            self.assertLessEqual(node.end_lineno - node.lineno + 1, 40, (name, node.name))

    def test_words(self):
        for path in FILES:
            self.assertIsNone(WORDS.search(path.read_text()), path.name)


class Forms(unittest.TestCase):
    def test_statements(self):
        for name, node in nodes_of(ast.stmt):
            self.assertIsInstance(node, STATEMENTS, (name, node.lineno))
            if isinstance(node, ast.Assign):
                self.assertEqual(len(node.targets), 1, (name, node.lineno))
                self.assertNotIsInstance(node.targets[0], (ast.Tuple, ast.List), (name, node.lineno))
            if isinstance(node, (ast.For, ast.While)):
                self.assertEqual(node.orelse, [], (name, node.lineno))

    def test_expressions(self):
        for name, node in nodes_of(BARRED):
            self.fail((name, node))
        for name, node in nodes_of(ast.Constant):
            self.assertIn(type(node.value), (int, str, bool, type(None)), (name, node.lineno))

    def test_functions(self):
        for name, node in nodes_of(ast.FunctionDef):
            args = node.args
            self.assertEqual((args.vararg, args.kwarg, args.kwonlyargs, args.posonlyargs), (None, None, [], []))
            self.assertEqual(node.decorator_list, [], (name, node.name))

    def test_imports(self):
        for name, node in nodes_of(ast.ImportFrom):
            self.assertEqual(node.level, 0, name)
            home = PACKAGE.parent / (node.module.replace(".", "/") + ".py")
            self.assertTrue(home.is_file(), (name, node.module))
            tops = ast.parse(home.read_text()).body
            own = {top.name for top in tops if isinstance(top, (ast.FunctionDef, ast.ClassDef))}
            own |= {top.targets[0].id for top in tops if isinstance(top, ast.Assign)}
            for alias in node.names:
                self.assertIn(alias.name, own, name)

    def test_no_two_files_draw_from_one_another(self):
        drawn = {}
        for name, node in nodes_of(ast.ImportFrom):
            drawn.setdefault(name, set()).add(node.module.split(".")[-1] + ".py")
        left = {path.name for path in FILES}
        while left:
            free = {name for name in left if not drawn.get(name, set()) & left}
            self.assertTrue(free, left)
            left -= free

    def test_no_local_is_called_like_an_import_or_a_class(self):
        for path in FILES:
            tree = ast.parse(path.read_text())
            taken = {alias.name for top in tree.body if isinstance(top, ast.ImportFrom) for alias in top.names}
            taken |= {top.name for top in tree.body if isinstance(top, ast.ClassDef)}
            for node in ast.walk(tree):
                if isinstance(node, ast.arg):
                    self.assertNotIn(node.arg, taken, (path.name, node.lineno))
                if isinstance(node, ast.Name) and isinstance(node.ctx, ast.Store):
                    self.assertNotIn(node.id, taken, (path.name, node.lineno))

    def test_each_name_is_bound_once_at_the_top(self):
        for path in FILES:
            bound = []
            for top in ast.parse(path.read_text()).body:
                if isinstance(top, ast.ImportFrom):
                    bound += [alias.name for alias in top.names]
                elif isinstance(top, ast.Assign):
                    bound.append(top.targets[0].id)
                elif isinstance(top, (ast.FunctionDef, ast.ClassDef)):
                    bound.append(top.name)
            self.assertEqual(len(set(bound)), len(bound), path.name)

    def test_names(self):
        for name, node in nodes_of((ast.Name, ast.arg, ast.Attribute, ast.FunctionDef, ast.ClassDef)):
            word = getattr(node, "id", None) or getattr(node, "arg", None) or getattr(node, "attr", None)
            word = word or node.name
            if word not in DUNDER_METHODS:
                self.assertRegex(word, r"^[A-Za-z][A-Za-z0-9_]*$", (name, node.lineno))
            if isinstance(node, ast.Name) and isinstance(node.ctx, ast.Load) and hasattr(builtins, word):
                self.assertIn(word, NAMES, (name, node.lineno))
            stored = isinstance(node, ast.Name) and isinstance(node.ctx, ast.Store)
            if stored or isinstance(node, (ast.arg, ast.ClassDef)):
                self.assertFalse(hasattr(builtins, word), (name, node.lineno, word))

    def test_methods(self):
        own = {node.name for name, node in nodes_of(ast.FunctionDef)}
        for name, node in nodes_of(ast.Call):
            if isinstance(node.func, ast.Attribute):
                self.assertIn(node.func.attr, METHODS | own, (name, node.lineno))

    def test_no_name_is_both_a_method_and_a_value(self):
        methods = {part.name for name, node in nodes_of(ast.ClassDef) for part in node.body
                   if isinstance(part, ast.FunctionDef)}
        values = {node.attr for name, node in nodes_of(ast.Attribute) if isinstance(node.ctx, ast.Store)}
        self.assertEqual(methods & values, set())

    def test_values_are_given_through_a_plain_name(self):
        for name, node in nodes_of(ast.Attribute):
            if isinstance(node.ctx, ast.Store):
                self.assertIsInstance(node.value, ast.Name, (name, node.lineno))

    def test_the_interface_is_a_plain_def(self):
        found = [(name, [arg.arg for arg in node.args.args], node.args.defaults)
                 for name, node in nodes_of(ast.FunctionDef) if node.name == "answers"]
        self.assertEqual(found, [("house.py", ["calls"], [])])


if __name__ == "__main__":
    unittest.main()
