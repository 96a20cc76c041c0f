"""The package keeps to the small part of Python that it is written in."""

import ast
import builtins
import pathlib
import re
import unittest

PACKAGE = pathlib.Path(__file__).resolve().parent.parent / "scorebookdesk"
FILES = sorted(PACKAGE.glob("*.py"))

OWN_NAMES = set(
    "len range enumerate zip min max sum abs sorted reversed int str bool list tuple dict set frozenset "
    "isinstance ord repr any all divmod Exception ValueError TypeError KeyError IndexError LookupError "
    "ZeroDivisionError ArithmeticError OverflowError RuntimeError NotImplementedError AttributeError "
    "StopIteration".split()
)
OWN_METHODS = set(
    "append clear copy count endswith extend find get index insert isalnum isalpha isdigit islower isspace "
    "isupper items join keys ljust lower lstrip partition pop remove replace reverse rfind rjust rpartition "
    "rsplit rstrip setdefault split splitlines startswith strip update upper values zfill bit_length".split()
)
STATEMENTS = (
    ast.Assign, ast.AugAssign, ast.If, ast.While, ast.For, ast.Return, ast.Break, ast.Continue, ast.Pass,
    ast.Raise, ast.Try, ast.Expr, ast.FunctionDef, ast.ClassDef, ast.ImportFrom,
)
EXPRESSIONS = (
    ast.Constant, ast.List, ast.Tuple, ast.Dict, ast.BinOp, ast.UnaryOp, ast.BoolOp, ast.Compare, ast.IfExp,
    ast.Call, ast.Attribute, ast.Subscript, ast.Slice, ast.ListComp, ast.Name, ast.Lambda,
)
DUNDER_METHODS = ("__init__",)
ERROR_BASES = ("ValueError", "Exception")
WALKERS = ("list", "tuple", "dict", "sorted", "sum", "any", "all", "enumerate", "zip", "min", "max")
WORDS_NOWHERE = (
    "type|typing|typing_extensions|enum|Enum|IntEnum|StrEnum|Flag|IntFlag|Generic|Protocol|ABC|ABCMeta|"
    "namedtuple|NamedTuple|TypedDict|TYPE_CHECKING|abstractmethod|register|mro|elements|open|input|"
    "version_info|with_traceback|add_note"
)
NAMES_NOT_USED = set(
    "attrgetter breakpoint builtins compile copyright credits delattr dir eval exec exit gc getattr globals "
    "hasattr help id importlib license locals methodcaller os quit setattr super type vars sys".split()
)


def source(file):
    return file.read_text(encoding="utf-8")


def nodes(file, kind):
    return [node for node in ast.walk(ast.parse(source(file))) if isinstance(node, kind)]


def bound_names(file):
    """Every name that the file gives a meaning: names, arguments, defs, classes, imports."""
    found = [node.id for node in nodes(file, ast.Name) if isinstance(node.ctx, ast.Store)]
    found += [node.arg for node in nodes(file, ast.arg)]
    found += [node.name for node in nodes(file, (ast.FunctionDef, ast.ClassDef))]
    return found + [name.name for node in nodes(file, ast.ImportFrom) for name in node.names]


class Language(unittest.TestCase):
    def each(self, kind):
        return [node for file in FILES for node in nodes(file, kind)]

    def test_files(self):
        names = [path.name for path in PACKAGE.iterdir() if path.name != "__pycache__"]
        self.assertIn("__init__.py", names)
        for name in names:
            self.assertRegex(name, r"^(__init__|[a-z][a-z0-9_]*)\.py$")
            self.assertNotRegex(name, r"^(test.*|site|conftest|sitecustomize|usercustomize)\.py$")
            self.assertNotIn(name[:-3], dir(builtins))

    def test_signs_and_sizes(self):
        for file in FILES:
            text = source(file)
            self.assertRegex(text, r"\A[ -~\n]*\Z")
            self.assertLessEqual(len(text.splitlines()), 400)
            self.assertLessEqual(max(map(len, text.splitlines())), 120)
        for node in self.each(ast.FunctionDef):
            self.assertLessEqual(node.end_lineno - node.lineno + 1, 40)

    def test_words_that_stand_nowhere(self):
        for file in FILES:
            self.assertIsNone(re.search(rf"\b({WORDS_NOWHERE})\b", source(file)))
            self.assertIsNone(re.search("dataclass|overload|contextmanager", source(file)))

    def test_statements_and_expressions(self):
        for node in self.each(ast.stmt):
            self.assertIsInstance(node, STATEMENTS)
        for node in self.each(ast.expr):
            self.assertIsInstance(node, EXPRESSIONS)

    def test_values(self):
        for node in self.each(ast.Constant):
            self.assertIn(type(node.value), (int, str, bool, type(None)))
        for node in self.each((ast.Div, ast.MatMult)):
            self.fail("no such sign")

    def test_assignments(self):
        for node in self.each(ast.Assign):
            self.assertEqual(len(node.targets), 1)
            self.assertNotIsInstance(node.targets[0], (ast.Tuple, ast.List))
        for node in self.each((ast.For, ast.While)):
            self.assertEqual(node.orelse, [])
        for node in self.each(ast.ListComp):
            self.assertEqual(len(node.generators), 1)
            self.assertLessEqual(len(node.generators[0].ifs), 1)

    def test_expression_statements(self):
        for node in self.each(ast.Expr):
            docstring = isinstance(node.value, ast.Constant) and isinstance(node.value.value, str)
            self.assertTrue(docstring or isinstance(node.value, ast.Call))

    def test_imports(self):
        for node in self.each(ast.ImportFrom):
            self.assertEqual(node.level, 0)
            self.assertEqual(node.col_offset, 0)
            file = PACKAGE / (node.module.removeprefix("scorebookdesk.") + ".py")
            self.assertTrue(file.exists())
            tops = ast.parse(source(file)).body
            defined = [top.name for top in tops if isinstance(top, (ast.FunctionDef, ast.ClassDef))]
            defined += [top.targets[0].id for top in tops if isinstance(top, ast.Assign)]
            for name in node.names:
                self.assertIsNone(name.asname)
                self.assertIn(name.name, defined)

    def test_no_file_draws_from_itself_in_any_steps(self):
        drawn = {
            file.stem: {node.module.split(".")[-1] for node in nodes(file, ast.ImportFrom)} for file in FILES
        }
        while drawn:
            free = [name for name, needs in drawn.items() if not needs & set(drawn)]
            self.assertNotEqual(free, [])
            for name in free:
                drawn.pop(name)

    def test_every_import_is_used(self):
        for file in FILES:
            used = {node.id for node in nodes(file, ast.Name)}
            for node in nodes(file, ast.ImportFrom):
                for name in node.names:
                    self.assertIn(name.name, used, file.name)

    def test_functions(self):
        for node in self.each((ast.FunctionDef, ast.Lambda)):
            told = node.args
            self.assertEqual((told.vararg, told.kwarg, told.kwonlyargs, told.posonlyargs), (None, None, [], []))
        for node in self.each((ast.FunctionDef, ast.ClassDef)):
            self.assertEqual(node.decorator_list, [])

    def test_names(self):
        for file in FILES:
            for name in bound_names(file):
                with self.subTest(file=file.name, name=name):
                    if name not in DUNDER_METHODS:
                        self.assertRegex(name, r"^[A-Za-z][A-Za-z0-9_]*$")
                    self.assertNotIn(name, dir(builtins))
                    self.assertNotIn(name, NAMES_NOT_USED)
            for node in nodes(file, ast.Name):
                if node.id in dir(builtins):
                    self.assertIn(node.id, OWN_NAMES)

    def test_each_name_once_at_a_files_top(self):
        for file in FILES:
            tops = ast.parse(source(file)).body
            names = [top.name for top in tops if isinstance(top, (ast.FunctionDef, ast.ClassDef))]
            names += [top.targets[0].id for top in tops if isinstance(top, ast.Assign)]
            names += [name.name for top in tops if isinstance(top, ast.ImportFrom) for name in top.names]
            self.assertEqual(len(names), len(set(names)))
            within = [node.arg for node in nodes(file, ast.arg)]
            within += [node.id for node in nodes(file, ast.Name) if isinstance(node.ctx, ast.Store) and node.col_offset]
            self.assertEqual(set(within) & set(names), set())

    def test_methods_of_pythons_own(self):
        for node in self.each(ast.Call):
            if isinstance(node.func, ast.Attribute):
                self.assertIn(node.func.attr, OWN_METHODS)

    def test_classes(self):
        for node in self.each(ast.ClassDef):
            self.assertEqual(node.col_offset, 0)
            self.assertLessEqual(len(node.bases), 1)
            self.assertEqual(node.keywords, [])
            for base in node.bases:
                self.assertIn(base.id, ERROR_BASES)
            for part in node.body:
                self.assertIsInstance(part, (ast.FunctionDef, ast.Expr))

    def test_errors_are_the_programs_own(self):
        own = {node.name for node in self.each(ast.ClassDef) if node.bases}
        for node in self.each(ast.Raise):
            self.assertIsInstance(node.exc, ast.Call)
            self.assertIn(node.exc.func.id, own)
            self.assertEqual(node.exc.keywords, [])
        for node in self.each(ast.ExceptHandler):
            self.assertIn(node.type.id, own)
        for node in self.each(ast.Try):
            self.assertEqual(node.finalbody, [])

    def test_walked_at_once(self):
        within = []
        for node in self.each((ast.For, ast.comprehension)):
            within.append(node.iter)
        for node in self.each(ast.Call):
            if isinstance(node.func, ast.Name) and node.func.id in WALKERS:
                within += node.args[:1]
        for node in self.each(ast.Call):
            if isinstance(node.func, ast.Name) and node.func.id in ("zip", "enumerate", "reversed", "range"):
                self.assertIn(ast.dump(node), [ast.dump(one) for one in within])

    def test_sets_are_not_kept(self):
        counted = [ast.dump(node.args[0]) for node in self.each(ast.Call)
                   if isinstance(node.func, ast.Name) and node.func.id in ("len", "sorted")]
        for node in self.each(ast.Call):
            if isinstance(node.func, ast.Name) and node.func.id in ("set", "frozenset"):
                self.assertIn(ast.dump(node), counted)

    def test_no_name_is_a_method_and_a_value(self):
        methods = {part.name for node in self.each(ast.ClassDef) for part in node.body
                   if isinstance(part, ast.FunctionDef)}
        values = {node.attr for node in self.each(ast.Attribute) if isinstance(node.ctx, ast.Store)}
        self.assertEqual(methods & values, set())
        for name in values:
            for kind in (str, int, list, dict, set, bytes):
                self.assertNotIn(name, dir(kind))

    def test_is_stands_beside_none_alone(self):
        for node in self.each(ast.Compare):
            for sign, right in zip(node.ops, node.comparators):
                if isinstance(sign, (ast.Is, ast.IsNot)):
                    self.assertIsInstance(right, ast.Constant)
                    self.assertIn(right.value, (None, True, False))

    def test_powers(self):
        for node in self.each(ast.BinOp):
            if isinstance(node.op, ast.Pow):
                self.assertIsInstance(node.right, ast.Constant)
                self.assertLessEqual(node.right.value, 64)


if __name__ == "__main__":
    unittest.main()
