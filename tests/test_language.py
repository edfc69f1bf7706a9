"""The rules of the language that can be seen in the text of the package's files."""

import ast
import builtins
import pathlib
import re
import unittest

PACKAGE = pathlib.Path(__file__).resolve().parent.parent / "patternmeans"

STATEMENTS = (
    ast.Assign, ast.AugAssign, ast.If, ast.While, ast.For, ast.Return, ast.Break, ast.Continue, ast.Pass, ast.Raise,
    ast.Try, ast.Expr, ast.FunctionDef, ast.ClassDef, ast.ImportFrom, ast.Import,
)
EXPRESSIONS = (
    ast.BoolOp, ast.BinOp, ast.UnaryOp, ast.Lambda, ast.IfExp, ast.Dict, ast.Set, ast.ListComp, ast.Compare, ast.Call,
    ast.Constant, ast.Attribute, ast.Subscript, ast.Name, ast.List, ast.Tuple, ast.Slice, ast.JoinedStr,
    ast.FormattedValue,
)
OWN_NAMES = set("""
    len range enumerate zip min max sum abs sorted reversed int str bool list tuple dict set frozenset isinstance ord
    repr any all divmod Exception ValueError TypeError KeyError IndexError LookupError ZeroDivisionError
    ArithmeticError OverflowError RuntimeError NotImplementedError AttributeError StopIteration
""".split())
METHODS = set("""
    append clear copy count endswith extend find get index insert isalnum isalpha isdigit islower isspace isupper items
    join keys ljust lower lstrip partition pop remove replace reverse rfind rjust rpartition rsplit rstrip setdefault
    split splitlines startswith strip update upper values zfill bit_length
""".split())
BUILT_IN_METHODS = {name for kind in (str, int, list, dict, set, bytes) for name in dir(kind)}
WORDS = """
    type typing typing_extensions enum Enum IntEnum StrEnum Flag IntFlag Generic Protocol ABC ABCMeta namedtuple
    NamedTuple TypedDict TYPE_CHECKING abstractmethod
""".split()
WITHIN_WORDS = ("dataclass", "overload", "contextmanager")
BARRED_NAMES = set("register mro elements open input version_info with_traceback add_note".split())
SPECIAL_METHODS = ("__init__", "__eq__", "__repr__", "__str__", "__len__")


def files():
    return sorted(path for path in PACKAGE.rglob("*") if "__pycache__" not in path.parts)


def trees():
    return [(path.name, ast.parse(path.read_text())) for path in files()]


def nodes():
    return [(name, node) for name, tree in trees() for node in ast.walk(tree)]


def bound_names(node):
    if isinstance(node, ast.Name) and isinstance(node.ctx, ast.Store):
        return [node.id]
    if isinstance(node, (ast.FunctionDef, ast.ClassDef)):
        return [node.name]
    if isinstance(node, ast.arg):
        return [node.arg]
    if isinstance(node, ast.Attribute) and isinstance(node.ctx, ast.Store):
        return [node.attr]
    if isinstance(node, ast.ExceptHandler):
        return [node.name] if node.name else []
    return []


class Language(unittest.TestCase):
    def test_files_and_signs(self):
        self.assertIn(PACKAGE / "__init__.py", files())
        for path in files():
            self.assertRegex(path.name, r"^[a-z0-9_]+\.py$")
            text = path.read_bytes().decode("ascii")
            self.assertEqual(re.findall(r"[^\n -~]", text), [], path)
            self.assertLessEqual(len(text.splitlines()), 399, path)
            for row in text.splitlines():
                self.assertLessEqual(len(row), 120, path)

    def test_words_that_stand_nowhere(self):
        for path in files():
            text = path.read_text()
            for word in WORDS:
                self.assertIsNone(re.search(rf"\b{word}\b", text), (path, word))
            for word in WITHIN_WORDS:
                self.assertNotIn(word, text, path)

    def test_statements_and_expressions(self):
        for name, node in nodes():
            if isinstance(node, ast.stmt):
                self.assertIsInstance(node, STATEMENTS, name)
            if isinstance(node, ast.expr):
                self.assertIsInstance(node, EXPRESSIONS, name)
            if isinstance(node, ast.Assign):
                self.assertEqual(len(node.targets), 1, name)
            if isinstance(node, (ast.For, ast.While)):
                self.assertEqual(node.orelse, [], name)
            if isinstance(node, ast.Try):
                self.assertEqual(node.finalbody, [], name)
            if isinstance(node, ast.ListComp):
                self.assertEqual(len(node.generators), 1, name)
                self.assertLessEqual(len(node.generators[0].ifs), 1, name)
            self.assertNotIsInstance(node, (ast.Div, ast.MatMult), name)
            if isinstance(node, ast.Constant):
                self.assertNotIsInstance(node.value, (float, bytes, complex), name)
                if isinstance(node.value, str):
                    self.assertNotIn("%", node.value, name)

    def test_functions_and_classes(self):
        for name, node in nodes():
            if isinstance(node, ast.FunctionDef):
                self.assertLessEqual(node.end_lineno - node.lineno + 1, 40, node.name)
                self.assertEqual(node.decorator_list, [], node.name)
                taken = node.args
                self.assertIsNone(taken.vararg or taken.kwarg, node.name)
                self.assertEqual(taken.kwonlyargs + taken.posonlyargs, [], node.name)
            if isinstance(node, ast.ClassDef):
                self.assertEqual(node.decorator_list + node.keywords, [], node.name)
                self.assertLessEqual(len(node.bases), 1, node.name)
                for row in node.body:
                    self.assertTrue(isinstance(row, ast.FunctionDef) or ast.get_docstring(node) and row == node.body[0])

    def test_lambdas_of_the_same_parameters_stand_apart(self):
        seen = set()
        for name, node in nodes():
            if isinstance(node, ast.Lambda):
                place = (name, node.lineno, tuple(taken.arg for taken in node.args.args))
                self.assertNotIn(place, seen)
                seen.add(place)

    def test_imports(self):
        drawn = {}
        for name, node in nodes():
            self.assertNotIsInstance(node, ast.Import, name)
            if isinstance(node, ast.ImportFrom):
                self.assertEqual(node.level, 0, name)
                self.assertRegex(node.module, r"^patternmeans\.[a-z0-9_]+$")
                self.assertNotIn("*", [alias.name for alias in node.names])
                defined = ast.parse((PACKAGE / (node.module.split(".")[1] + ".py")).read_text()).body
                own = {bound for row in defined for part in [row, *ast.walk(row)] for bound in bound_names(part)}
                self.assertLessEqual({alias.name for alias in node.names}, own, name)
                drawn.setdefault(name, set()).add(node.module.split(".")[1] + ".py")
        reached = {name: set(ahead) for name, ahead in drawn.items()}
        for name in list(reached) * len(reached):
            for other in list(reached[name]):
                reached[name] |= reached.get(other, set())
            self.assertNotIn(name, reached[name])

    def test_names(self):
        for name, tree in trees():
            imported = {alias.name for row in tree.body if isinstance(row, ast.ImportFrom) for alias in row.names}
            classes = {row.name for row in tree.body if isinstance(row, ast.ClassDef)}
            top = [bound for row in tree.body for part in [row, *getattr(row, "targets", [])] for bound in bound_names(part)]
            self.assertEqual(len(top), len(set(top)), name)
            for node in ast.walk(tree):
                for bound in bound_names(node):
                    self.assertFalse(bound.startswith("_") and bound not in SPECIAL_METHODS, (name, bound))
                    self.assertNotIn(bound, BARRED_NAMES, name)
                    if not isinstance(node, ast.Attribute):
                        self.assertNotIn(bound, dir(builtins), name)
                        self.assertNotIn(bound, imported, name)
                    if isinstance(node, (ast.Name, ast.arg)):
                        self.assertNotIn(bound, classes, name)
                if isinstance(node, ast.Name) and node.id in dir(builtins):
                    self.assertIn(node.id, OWN_NAMES, name)
                if isinstance(node, ast.Attribute) and node.attr in BUILT_IN_METHODS:
                    self.assertIn(node.attr, METHODS, name)

    def test_no_name_is_both_a_method_and_a_value(self):
        methods = [
            part.name for name, node in nodes() if isinstance(node, ast.ClassDef)
            for part in node.body if isinstance(part, ast.FunctionDef)
        ]
        values = {node.attr for name, node in nodes() if isinstance(node, ast.Attribute) and isinstance(node.ctx, ast.Store)}
        self.assertEqual(values & set(methods), set())

    def test_what_is_kept_at_a_files_top_is_plain(self):
        for name, tree in trees():
            for row in tree.body[1:]:
                self.assertIsInstance(row, (ast.ImportFrom, ast.Assign, ast.FunctionDef, ast.ClassDef), name)
                if isinstance(row, ast.Assign):
                    ast.literal_eval(row.value)
            self.assertIsNotNone(ast.get_docstring(tree), name)


if __name__ == "__main__":
    unittest.main()
