"""The package keeps to its part of the language: what of the rules a look at the syntax can tell."""

import ast
import builtins
import re
import unittest
from pathlib import Path

PACKAGE = Path(__file__).resolve().parent.parent / "knotbookdesk"
SOURCES = {path.name: path.read_text(encoding="utf-8") for path in sorted(PACKAGE.glob("*.py"))}
TREES = {name: ast.parse(text) for name, text in SOURCES.items()}

STATEMENTS = (
    ast.FunctionDef, ast.ClassDef, ast.ImportFrom, ast.Assign, ast.AugAssign, ast.If, ast.While, ast.For, ast.Return,
    ast.Break, ast.Continue, ast.Pass, ast.Raise, ast.Try, ast.Expr,
)
EXPRESSIONS = (
    ast.Constant, ast.Name, ast.List, ast.Tuple, ast.Dict, ast.BinOp, ast.UnaryOp, ast.BoolOp, ast.Compare, ast.IfExp,
    ast.Call, ast.Attribute, ast.Subscript, ast.Slice, ast.ListComp, ast.Lambda, ast.JoinedStr, ast.FormattedValue,
)
OWN_NAMES = """len range enumerate zip min max sum abs sorted reversed int str bool list tuple dict set frozenset isinstance
ord repr any all divmod Exception ValueError TypeError KeyError IndexError LookupError ZeroDivisionError ArithmeticError
OverflowError RuntimeError NotImplementedError AttributeError StopIteration""".split()
METHODS = """append clear copy count endswith extend find get index insert isalnum isalpha isdigit islower isspace isupper
items join keys ljust lower lstrip partition pop remove replace reverse rfind rjust rpartition rsplit rstrip setdefault
split splitlines startswith strip update upper values zfill bit_length""".split()
NO_NAMES = """register mro elements open input version_info with_traceback add_note attrgetter breakpoint builtins compile
copyright credits delattr dir eval exec exit gc getattr globals hasattr help id importlib license locals methodcaller os
quit setattr super type vars sys""".split()
NO_WORDS = """type typing typing_extensions enum Enum IntEnum StrEnum Flag IntFlag Generic Protocol ABC ABCMeta namedtuple
NamedTuple TypedDict TYPE_CHECKING abstractmethod""".split()
WALKED = ("zip", "enumerate", "reversed", "range", "items", "keys", "values")
WALKERS = ("list", "tuple", "dict", "sorted", "sum", "any", "all", "enumerate", "zip", "min", "max")


def nodes():
    """Every node of the package as (file, node, parent)."""
    for name, tree in TREES.items():
        for parent in ast.walk(tree):
            for node in ast.iter_child_nodes(parent):
                yield name, node, parent


def called(node):
    """The name by which a call calls."""
    if isinstance(node, ast.Call):
        return node.func.id if isinstance(node.func, ast.Name) else getattr(node.func, "attr", None)
    return None


def top_names(tree):
    names = [node.name for node in tree.body if isinstance(node, (ast.FunctionDef, ast.ClassDef))]
    return names + [node.targets[0].id for node in tree.body if isinstance(node, ast.Assign)]


def drawn_from(tree):
    """The files a file draws from, with the names."""
    rows = [node for node in tree.body if isinstance(node, ast.ImportFrom)]
    return {node.module.split(".")[1] + ".py": [alias.name for alias in node.names] for node in rows}


class Files(unittest.TestCase):
    def test_names_and_signs(self):
        for path in PACKAGE.iterdir():
            if path.name != "__pycache__":
                self.assertRegex(path.name, r"^([a-z][a-z0-9_]*|__init__|__main__)\.py$")
                self.assertNotIn(path.stem, dir(builtins))
        for name, text in SOURCES.items():
            self.assertRegex(text, r"\A[ -~\n]*\Z", name)
            self.assertLessEqual(len(text.splitlines()), 400, name)
            self.assertLessEqual(max(len(line) for line in text.splitlines()), 120, name)

    def test_words_that_stand_nowhere(self):
        for name, text in SOURCES.items():
            self.assertEqual([word for word in re.findall(r"\w+", text) if word in NO_WORDS], [], name)
            self.assertNotRegex(text, "dataclass|overload|contextmanager", name)

    def test_imports(self):
        for name, node, parent in nodes():
            self.assertNotIsInstance(node, ast.Import, name)
            if isinstance(node, ast.ImportFrom):
                self.assertIsInstance(parent, ast.Module)
                self.assertRegex(node.module, r"^knotbookdesk\.[a-z]+$")
        for name, tree in TREES.items():
            for source, names in drawn_from(tree).items():
                self.assertLessEqual(set(names), set(top_names(TREES[source])), name)

    def test_no_two_files_draw_from_one_another(self):
        left = {name: set(drawn_from(tree)) for name, tree in TREES.items()}
        while left:
            free = [name for name in left if not left[name] & set(left)]
            self.assertTrue(free, left)
            for name in free:
                left.pop(name)

    def test_the_top_of_a_file(self):
        for name, tree in TREES.items():
            for node in tree.body:
                self.assertIsInstance(node, (ast.FunctionDef, ast.ClassDef, ast.ImportFrom, ast.Assign, ast.Expr), name)
                if isinstance(node, ast.Expr):
                    self.assertIsInstance(node.value, ast.Constant)
                if isinstance(node, ast.Assign):
                    plain = (ast.Constant, ast.List, ast.Tuple, ast.Dict, ast.Name, ast.UnaryOp, ast.expr_context, ast.USub)
                    self.assertTrue(all(isinstance(part, plain) for part in ast.walk(node.value)), ast.dump(node))
            self.assertEqual(len(top_names(tree)), len(set(top_names(tree))), name)


class Syntax(unittest.TestCase):
    def test_statements(self):
        for name, node, parent in nodes():
            where = (name, getattr(node, "lineno", None))
            if isinstance(node, ast.stmt):
                self.assertIsInstance(node, STATEMENTS, where)
            if isinstance(node, ast.Assign):
                self.assertEqual(len(node.targets), 1, where)
                self.assertNotIsInstance(node.targets[0], (ast.Tuple, ast.List), where)
            if isinstance(node, (ast.For, ast.While)):
                self.assertEqual(node.orelse, [], where)
            if isinstance(node, ast.FunctionDef):
                self.assertLessEqual(node.end_lineno - node.lineno + 1, 40, where)
                self.assertEqual(node.decorator_list, [], where)
                self.assertIsNone(node.args.vararg or node.args.kwarg or node.returns, where)
                self.assertEqual(node.args.kwonlyargs, [], where)
            if isinstance(node, ast.arg):
                self.assertIsNone(node.annotation, where)

    def test_expressions(self):
        for name, node, parent in nodes():
            where = (name, getattr(node, "lineno", None))
            if isinstance(node, ast.expr):
                self.assertIsInstance(node, EXPRESSIONS, where)
            if isinstance(node, ast.Constant):
                self.assertIsInstance(node.value, (int, str, type(None)), where)
                self.assertNotIn("%", str(node.value), where)
            if isinstance(node, ast.ListComp):
                self.assertEqual(len(node.generators), 1, where)
                self.assertLessEqual(len(node.generators[0].ifs), 1, where)
            if isinstance(node, ast.BinOp):
                self.assertNotIsInstance(node.op, (ast.Div, ast.Pow, ast.MatMult), where)
            if isinstance(node, ast.Compare) and any(isinstance(op, (ast.Is, ast.IsNot)) for op in node.ops):
                self.assertTrue(all(isinstance(value, ast.Constant) for value in node.comparators), where)

    def test_walked_on_the_spot(self):
        for name, node, parent in nodes():
            if called(node) in WALKED:
                walked = isinstance(parent, (ast.For, ast.comprehension)) or called(parent) in WALKERS
                self.assertTrue(walked, (name, node.lineno))
            if called(node) in ("set", "frozenset"):
                self.assertIn(called(parent), ("sorted", "len"), (name, node.lineno))


class Names(unittest.TestCase):
    def test_form(self):
        for name, node, parent in nodes():
            for word in (getattr(node, "id", None), getattr(node, "arg", None), getattr(node, "attr", None),
                         getattr(node, "name", None)):
                if word is not None and word != "__init__":
                    self.assertRegex(word, r"^[A-Za-z][A-Za-z0-9_]*$", name)
                    self.assertNotIn(word, NO_NAMES, name)

    def test_python_s_own(self):
        for name, tree in TREES.items():
            own = set(top_names(tree)).union(*drawn_from(tree).values())
            for node in ast.walk(tree):
                if isinstance(node, ast.Name) and node.id in dir(builtins) and node.id not in own:
                    self.assertIsInstance(node.ctx, ast.Load, (name, node.id))
                    self.assertIn(node.id, OWN_NAMES, name)
                if isinstance(node, ast.arg):
                    self.assertNotIn(node.arg, dir(builtins), name)
            self.assertEqual(own & set(dir(builtins)), set(), name)

    def test_no_local_is_called_like_an_import_or_a_class(self):
        for name, tree in TREES.items():
            classes = [node.name for node in tree.body if isinstance(node, ast.ClassDef)]
            taken = set(classes).union(*drawn_from(tree).values())
            for node in ast.walk(tree):
                if isinstance(node, ast.Name) and isinstance(node.ctx, ast.Store):
                    self.assertNotIn(node.id, taken, name)
                if isinstance(node, ast.arg):
                    self.assertNotIn(node.arg, taken, name)

    def test_methods(self):
        for name, node, parent in nodes():
            if isinstance(node, ast.Call) and isinstance(node.func, ast.Attribute):
                self.assertIn(node.func.attr, METHODS, (name, node.lineno))

    def test_lists_and_dicts_of_a_file_s_top_are_only_read(self):
        for name, tree in TREES.items():
            kept = [node.targets[0].id for node in tree.body
                    if isinstance(node, ast.Assign) and isinstance(node.value, (ast.List, ast.Dict))]
            for parent in ast.walk(tree):
                for node in ast.iter_child_nodes(parent):
                    if isinstance(node, ast.Name) and node.id in kept and isinstance(node.ctx, ast.Load):
                        asked = isinstance(parent, ast.Compare) and isinstance(parent.ops[0], ast.In)
                        read = isinstance(parent, ast.Subscript) and isinstance(parent.ctx, ast.Load)
                        self.assertTrue(asked or read, (name, node.lineno))


if __name__ == "__main__":
    unittest.main()
