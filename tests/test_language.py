"""The package's files keep to the small part of Python that the program is written in: what can be seen of it."""

import ast
import builtins
import pathlib
import re
import unittest

PACKAGE = pathlib.Path(__file__).resolve().parent.parent / "glowtiles"
FILES = sorted(path for path in PACKAGE.rglob("*") if path.is_file() and path.parent.name != "__pycache__")
TREES = {path.stem: ast.parse(path.read_text()) for path in FILES}

STATEMENTS = (ast.Assign, ast.AugAssign, ast.If, ast.While, ast.For, ast.Return, ast.Break, ast.Continue, ast.Pass,
              ast.Raise, ast.Try, ast.Expr, ast.FunctionDef, ast.ClassDef, ast.ImportFrom)
EXPRESSIONS = (ast.Constant, ast.Name, ast.Attribute, ast.Subscript, ast.Slice, ast.Call, ast.BinOp, ast.UnaryOp,
               ast.BoolOp, ast.Compare, ast.IfExp, ast.List, ast.Tuple, ast.Dict, ast.ListComp, ast.Lambda,
               ast.JoinedStr, ast.FormattedValue)
BUILTINS = set("""len range enumerate zip min max sum abs sorted reversed int str bool list tuple dict set frozenset
    isinstance ord repr any all divmod Exception ValueError TypeError KeyError IndexError LookupError
    ZeroDivisionError ArithmeticError OverflowError RuntimeError NotImplementedError StopIteration""".split())
METHODS = set("""append clear copy count endswith extend find get index insert isalnum isalpha isdigit islower isspace
    isupper items join keys ljust lower lstrip partition pop remove replace reverse rfind rjust rpartition rsplit
    rstrip setdefault split splitlines startswith strip update upper values zfill bit_length""".split())
UNUSED_NAMES = set("""register mro elements open input version_info with_traceback add_note attrgetter breakpoint
    builtins compile copyright credits delattr dir eval exec exit gc getattr globals hasattr help id importlib license
    locals methodcaller os quit setattr super type vars sys""".split())
UNUSED_WORDS = re.compile(r"\b(type|typing|typing_extensions|enum|Enum|IntEnum|StrEnum|Flag|IntFlag|Generic|Protocol"
                          r"|ABC|ABCMeta|namedtuple|NamedTuple|TypedDict|TYPE_CHECKING|abstractmethod)\b"
                          r"|dataclass|overload|contextmanager")


def nodes(kind):
    return [(stem, node) for stem, tree in TREES.items() for node in ast.walk(tree) if isinstance(node, kind)]


def top_names(tree):
    """The names that a file binds at its top, but for its imports."""
    names = [node.name for node in tree.body if isinstance(node, (ast.FunctionDef, ast.ClassDef))]
    return names + [node.targets[0].id for node in tree.body if isinstance(node, ast.Assign)]


def drawn_from(tree):
    return [node.module.split(".")[1] for node in tree.body if isinstance(node, ast.ImportFrom)]


class Files(unittest.TestCase):
    def test_names_and_signs(self):
        self.assertIn("__init__", TREES)
        for path in FILES:
            self.assertRegex(path.name, r"^([a-z][a-z0-9_]*|__init__)\.py$")
            self.assertFalse(re.match(r"test|site|conftest|__main__", path.stem))
            self.assertRegex(path.read_bytes().decode("ascii"), r"^[ -~\n]*$")

    def test_sizes(self):
        for path in FILES:
            rows = path.read_text().split("\n")
            self.assertLessEqual(len(rows), 400, path)
            self.assertLessEqual(max(map(len, rows)), 120, path)
        for stem, node in nodes(ast.FunctionDef):
            self.assertLessEqual(node.end_lineno - node.lineno + 1, 40, (stem, node.name))

    def test_words_that_are_not_used(self):
        for path in FILES:
            self.assertIsNone(UNUSED_WORDS.search(path.read_text()), path)

    def test_imports(self):
        for stem, node in nodes(ast.ImportFrom):
            self.assertIn(node, TREES[stem].body)
            self.assertEqual((node.level, node.module.split(".")[0], len(node.module.split("."))), (0, "glowtiles", 2))
            for name in node.names:
                self.assertIn(name.name, top_names(TREES[node.module.split(".")[1]]))
                self.assertIsNone(name.asname)
        self.assertEqual(drawn_from(TREES["__init__"]), [])

    def test_no_two_files_draw_from_one_another(self):
        left = {stem: set(drawn_from(tree)) for stem, tree in TREES.items()}
        while left:
            free = [stem for stem, others in left.items() if not others & set(left)]
            self.assertTrue(free, left)
            for stem in free:
                del left[stem]

    def test_the_top_of_a_file(self):
        for stem, tree in TREES.items():
            self.assertTrue(ast.get_docstring(tree), stem)
            for node in tree.body[1:]:
                self.assertIsInstance(node, (ast.ImportFrom, ast.FunctionDef, ast.ClassDef, ast.Assign))
            self.assertEqual(len(top_names(tree)), len(set(top_names(tree))), stem)

    def test_the_interface_stands_in_its_file_alone(self):
        self.assertEqual([stem for stem, tree in TREES.items() if "answers" in top_names(tree)], ["studio"])


class Code(unittest.TestCase):
    def test_statements(self):
        for stem, node in nodes(ast.stmt):
            self.assertIsInstance(node, STATEMENTS, (stem, node.lineno))
            if isinstance(node, ast.Assign):
                self.assertEqual(len(node.targets), 1, (stem, node.lineno))
            if isinstance(node, (ast.For, ast.While)):
                self.assertEqual(node.orelse, [], (stem, node.lineno))
            if isinstance(node, ast.Try):
                self.assertEqual(node.finalbody, [], (stem, node.lineno))

    def test_expressions(self):
        for stem, node in nodes(ast.expr):
            self.assertIsInstance(node, EXPRESSIONS, (stem, node.lineno))
            if isinstance(node, ast.ListComp):
                self.assertEqual(len(node.generators), 1, (stem, node.lineno))
                self.assertLessEqual(len(node.generators[0].ifs), 1, (stem, node.lineno))
            if isinstance(node, ast.BinOp):
                self.assertNotIsInstance(node.op, (ast.Div, ast.MatMult), (stem, node.lineno))
                if isinstance(node.op, ast.Pow):
                    self.assertIn(ast.literal_eval(node.right), range(65), (stem, node.lineno))

    def test_values(self):
        for stem, node in nodes(ast.Constant):
            self.assertTrue(node.value is None or isinstance(node.value, (int, str)), (stem, node.lineno))
            if isinstance(node.value, str):
                self.assertNotIn("%", node.value)

    def test_functions(self):
        for stem, node in nodes(ast.FunctionDef):
            self.assertEqual((node.decorator_list, node.args.kwonlyargs, node.args.posonlyargs), ([], [], []))
            self.assertEqual((node.args.vararg, node.args.kwarg, node.returns), (None, None, None))
            self.assertTrue(all(name.annotation is None for name in node.args.args), (stem, node.name))

    def test_classes(self):
        for stem, node in nodes(ast.ClassDef):
            self.assertEqual((node.decorator_list, node.keywords), ([], []))
            self.assertLessEqual(len(node.bases), 1)
            for part in node.body[1:]:
                self.assertIsInstance(part, ast.FunctionDef, (stem, node.name))

    def test_names(self):
        for stem, tree in TREES.items():
            drawn = [name.name for node in tree.body if isinstance(node, ast.ImportFrom) for name in node.names]
            bound = [(node.id, node.lineno) for kind, node in nodes(ast.Name) if kind == stem
                     and isinstance(node.ctx, ast.Store)]
            bound += [(node.arg, node.lineno) for kind, node in nodes(ast.arg) if kind == stem]
            for name, row in bound:
                self.assertRegex(name, r"^[A-Za-z][A-Za-z0-9_]*$", (stem, row))
                self.assertFalse(hasattr(builtins, name) or name in drawn, (stem, row, name))
        for stem, node in nodes(ast.Name):
            self.assertNotIn(node.id, UNUSED_NAMES, (stem, node.lineno))
            if hasattr(builtins, node.id):
                self.assertIn(node.id, BUILTINS, (stem, node.lineno))

    def test_methods_and_values_of_objects(self):
        methods = {part.name for stem, node in nodes(ast.ClassDef) for part in node.body[1:]}
        stored = {node.attr for stem, node in nodes(ast.Attribute) if isinstance(node.ctx, ast.Store)}
        self.assertEqual(methods & stored, set())
        for name in stored:
            for kind in (int, str, list, tuple, dict, set, bytes):
                self.assertFalse(hasattr(kind, name), name)
        for stem, node in nodes(ast.Attribute):
            self.assertIn(node.attr, METHODS | methods | stored, (stem, node.lineno))

    def test_the_lists_of_a_files_top_hold_no_lists(self):
        for stem, tree in TREES.items():
            for node in tree.body:
                if isinstance(node, ast.Assign):
                    inner = [part for part in ast.walk(node.value) if isinstance(part, (ast.List, ast.Dict))]
                    self.assertIn(inner, ([], [node.value]), (stem, node.lineno))


if __name__ == "__main__":
    unittest.main()
