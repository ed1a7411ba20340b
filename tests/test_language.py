"""The package keeps to the part of Python that LANGUAGE.md allows, as far as its rules can be seen from the code."""

import ast
import builtins
import pathlib
import re
import unittest

PACKAGE = pathlib.Path(__file__).resolve().parent.parent / "bitmill"
FILES = sorted(PACKAGE.glob("*.py"))

STATEMENTS = (ast.Expr, ast.Assign, ast.AugAssign, ast.If, ast.While, ast.For, ast.Return, ast.Break, ast.Continue,
              ast.Pass, ast.Raise, ast.Try, ast.FunctionDef, ast.ClassDef, ast.ImportFrom)
EXPRESSIONS = (ast.Constant, ast.Name, ast.Attribute, ast.Subscript, ast.Slice, ast.Call, ast.BinOp, ast.UnaryOp,
               ast.BoolOp, ast.Compare, ast.IfExp, ast.List, ast.Tuple, ast.Dict, ast.ListComp, ast.Lambda)
OWN_NAMES = ("len range enumerate zip min max sum abs sorted reversed int str bool list tuple dict set frozenset "
             "isinstance ord repr any all divmod Exception ValueError TypeError KeyError IndexError LookupError "
             "ZeroDivisionError ArithmeticError OverflowError RuntimeError NotImplementedError StopIteration").split()
METHODS = ("append clear copy count endswith extend find get index insert isalnum isalpha isdigit islower isspace "
           "isupper items join keys ljust lower lstrip partition pop remove replace reverse rfind rjust rpartition "
           "rsplit rstrip setdefault split splitlines startswith strip update upper values zfill bit_length").split()
NOT_NAMES = ("register mro elements open input version_info with_traceback add_note attrgetter breakpoint builtins "
             "compile copyright credits delattr dir eval exec exit gc getattr globals hasattr help id importlib "
             "license locals methodcaller os quit setattr super type vars sys").split()
NOT_WORDS = re.compile(r"\b(type|typing|typing_extensions|enum|Enum|IntEnum|StrEnum|Flag|IntFlag|Generic|Protocol|ABC"
                       r"|ABCMeta|namedtuple|NamedTuple|TypedDict|TYPE_CHECKING|abstractmethod)\b"
                       r"|dataclass|overload|contextmanager")


def trees():
    return [(path.name, ast.parse(path.read_text())) for path in FILES]


def nodes(kind):
    return [(name, node) for name, tree in trees() for node in ast.walk(tree) if isinstance(node, kind)]


def top_names(tree):
    """How each name of a file's top is bound."""
    bound = {}
    for node in tree.body:
        if isinstance(node, (ast.FunctionDef, ast.ClassDef)):
            bound.setdefault(node.name, []).append(node)
        elif isinstance(node, ast.Assign):
            bound.setdefault(node.targets[0].id, []).append(node)
        elif isinstance(node, ast.ImportFrom):
            for alias in node.names:
                bound.setdefault(alias.asname or alias.name, []).append(node)
    return bound


class FilesTest(unittest.TestCase):
    def test_only_python_files_lie_there(self):
        names = [path.name for path in PACKAGE.iterdir() if path.name != "__pycache__"]
        self.assertEqual(sorted(names), [path.name for path in FILES])
        for name in names:
            self.assertRegex(name, r"^(__init__|[a-z][a-z0-9_]*)\.py$")
            self.assertNotIn(name[:-3], dir(builtins))

    def test_sizes_and_signs(self):
        for path in FILES:
            lines = path.read_text(encoding="ascii").split("\n")
            self.assertLessEqual(len(lines), 400, path.name)
            for number, line in enumerate(lines, 1):
                self.assertLessEqual(len(line), 120, (path.name, number))
                self.assertRegex(line, r"^[ -~]*$", (path.name, number))
                self.assertIsNone(NOT_WORDS.search(line), (path.name, number))

    def test_functions_are_short(self):
        for name, node in nodes(ast.FunctionDef):
            self.assertLessEqual(node.end_lineno - node.lineno + 1, 40, (name, node.name))


class FormTest(unittest.TestCase):
    def test_statements_and_expressions(self):
        for name, node in nodes(ast.stmt):
            self.assertIsInstance(node, STATEMENTS, (name, node.lineno))
        for name, node in nodes(ast.expr):
            self.assertIsInstance(node, EXPRESSIONS, (name, node.lineno))

    def test_assignments_have_one_plain_target(self):
        for name, node in nodes(ast.Assign):
            self.assertEqual(len(node.targets), 1, (name, node.lineno))
            self.assertIsInstance(node.targets[0], (ast.Name, ast.Attribute, ast.Subscript), (name, node.lineno))

    def test_loops_and_tries(self):
        for name, node in nodes((ast.For, ast.While)):
            self.assertEqual(node.orelse, [], (name, node.lineno))
        for name, node in nodes(ast.Try):
            self.assertEqual(node.finalbody, [], (name, node.lineno))
            for handler in node.handlers:
                self.assertIsInstance(handler.type, ast.Name, (name, node.lineno))
                self.assertNotIn(handler.type.id, ("Exception", "TypeError"))

    def test_operators(self):
        for name, node in nodes((ast.BinOp, ast.AugAssign)):
            self.assertNotIsInstance(node.op, (ast.Div, ast.MatMult, ast.Pow), (name, node.lineno))
        for name, node in nodes(ast.Compare):
            for op, right in zip(node.ops, node.comparators):
                if isinstance(op, (ast.Is, ast.IsNot)):
                    self.assertIsInstance(right, ast.Constant, (name, node.lineno))

    def test_constants(self):
        for name, node in nodes(ast.Constant):
            self.assertIn(type(node.value), (int, str, bool, type(None)), (name, node.lineno))
            if isinstance(node.value, str):
                self.assertNotIn("%", node.value, (name, node.lineno))

    def test_functions_and_classes_are_plain(self):
        for name, node in nodes((ast.FunctionDef, ast.ClassDef)):
            self.assertEqual(node.decorator_list, [], (name, node.name))
        for name, node in nodes(ast.arguments):
            self.assertEqual((node.vararg, node.kwarg, node.kwonlyargs, node.posonlyargs), (None, None, [], []), name)
        for name, node in nodes(ast.ClassDef):
            self.assertLessEqual(len(node.bases), 1, (name, node.name))
            for part in node.body:
                self.assertTrue(isinstance(part, ast.FunctionDef) or isinstance(part.value, ast.Constant), name)


class NamesTest(unittest.TestCase):
    def test_python_s_own_names(self):
        own = set(dir(builtins))
        for name, tree in trees():
            for node in ast.walk(tree):
                if isinstance(node, ast.Name) and node.id in own:
                    self.assertIn(node.id, OWN_NAMES, (name, node.lineno))
                    self.assertIsInstance(node.ctx, ast.Load, (name, node.lineno))
                if isinstance(node, ast.arg):
                    self.assertNotIn(node.arg, own, (name, node.lineno))
                if isinstance(node, (ast.FunctionDef, ast.ClassDef)):
                    self.assertNotIn(node.name, own, (name, node.lineno))

    def test_names_that_are_not_used(self):
        for name, tree in trees():
            for node in ast.walk(tree):
                for field in ("id", "attr", "arg", "name"):
                    word = getattr(node, field, None)
                    if isinstance(word, str):
                        self.assertNotIn(word, NOT_NAMES, name)
                        self.assertRegex(word, r"^([A-Za-z][A-Za-z0-9_]*|__init__|bitmill\.[a-z]+)$", name)

    def test_names_of_the_top_are_bound_once_and_not_hidden(self):
        for name, tree in trees():
            bound = top_names(tree)
            self.assertEqual([word for word, many in bound.items() if len(many) > 1], [], name)
            hidden = [word for word, many in bound.items() if not isinstance(many[0], ast.Assign)]
            for node in ast.walk(tree):
                if isinstance(node, ast.arg):
                    self.assertNotIn(node.arg, hidden, (name, node.lineno))
                if isinstance(node, ast.Name) and isinstance(node.ctx, ast.Store):
                    self.assertNotIn(node.id, hidden, (name, node.lineno))

    def test_methods(self):
        for name, node in nodes(ast.Call):
            if isinstance(node.func, ast.Attribute):
                self.assertIn(node.func.attr, METHODS + ["__init__"], (name, node.lineno))
            self.assertEqual(node.keywords, [], (name, node.lineno))


class ImportsTest(unittest.TestCase):
    def test_each_is_from_the_file_that_defines_it_and_used(self):
        defined = {name[:-3]: [word for word, many in top_names(tree).items()
                               if not isinstance(many[0], ast.ImportFrom)] for name, tree in trees()}
        for name, tree in trees():
            used = {node.id for node in ast.walk(tree) if isinstance(node, ast.Name)}
            for node in ast.walk(tree):
                if isinstance(node, ast.ImportFrom):
                    self.assertIn(node, tree.body, name)
                    self.assertTrue(node.module.startswith("bitmill.") and node.level == 0, name)
                    for alias in node.names:
                        self.assertIn(alias.name, defined[node.module[8:]], name)
                        self.assertIn(alias.name, used, name)

    def test_no_two_files_draw_from_one_another(self):
        draws = {name[:-3]: [node.module[8:] for node in tree.body if isinstance(node, ast.ImportFrom)]
                 for name, tree in trees()}
        left = dict(draws)
        while left:
            free = [name for name, wants in left.items() if not any(want in left for want in wants)]
            self.assertNotEqual(free, [], left)
            for name in free:
                left.pop(name)

    def test_the_top_holds_plain_values(self):
        for name, tree in trees():
            above = set()
            for node in tree.body:
                if isinstance(node, ast.FunctionDef):
                    above.add(node.name)
                elif isinstance(node, ast.Assign):
                    for part in ast.walk(node.value):
                        if isinstance(part, ast.Name):
                            self.assertIn(part.id, above, (name, node.lineno))
                        elif isinstance(part, ast.expr):
                            self.assertIsInstance(part, (ast.Constant, ast.Tuple, ast.Dict, ast.UnaryOp),
                                                  (name, node.lineno))


if __name__ == "__main__":
    unittest.main()
