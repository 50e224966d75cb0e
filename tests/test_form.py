"""The package's own files keep to the form: the rules that a plain look at the files can tell."""

import ast
import builtins
import pathlib
import re
import unittest

PACKAGE = pathlib.Path(__file__).resolve().parent.parent / "noughtsets"
FILES = sorted(PACKAGE.rglob("*.py"))

OWN_NAMES = """len range enumerate zip min max sum abs sorted reversed int str bool list tuple dict set
frozenset isinstance ord repr any all divmod Exception ValueError KeyError IndexError LookupError
ZeroDivisionError ArithmeticError OverflowError RuntimeError NotImplementedError StopIteration""".split()

METHODS = """append clear copy count endswith extend find get index insert isalnum isalpha isdigit islower
isspace isupper items join keys ljust lower lstrip partition pop remove replace reverse rfind rjust
rpartition rsplit rstrip setdefault split splitlines startswith strip update upper values zfill
bit_length""".split()

WORDS = """type typing typing_extensions enum Enum IntEnum StrEnum Flag IntFlag Generic Protocol ABC ABCMeta
namedtuple NamedTuple TypedDict TYPE_CHECKING abstractmethod""".split()

NODES = (
    ast.Module, ast.FunctionDef, ast.arguments, ast.arg, ast.Return, ast.Assign, ast.For, ast.While, ast.If,
    ast.Break, ast.Continue, ast.Pass, ast.Expr, ast.BoolOp, ast.boolop, ast.BinOp, ast.operator, ast.UnaryOp,
    ast.unaryop, ast.Compare, ast.cmpop, ast.IfExp, ast.Call, ast.keyword, ast.Attribute, ast.Subscript,
    ast.Slice, ast.Name, ast.expr_context, ast.Constant, ast.List, ast.Tuple, ast.Dict, ast.ListComp,
    ast.comprehension, ast.AugAssign, ast.Lambda,
)


def nodes():
    return [node for file in FILES for node in ast.walk(ast.parse(file.read_text(encoding="utf-8")))]


def bound_names(tree):
    names = {node.id for node in ast.walk(tree) if isinstance(node, ast.Name) and isinstance(node.ctx, ast.Store)}
    names |= {node.arg for node in ast.walk(tree) if isinstance(node, ast.arg)}
    return names | {node.name for node in ast.walk(tree) if isinstance(node, ast.FunctionDef)}


class Files(unittest.TestCase):
    def test_only_python_files_with_plain_names(self):
        found = [path for path in PACKAGE.rglob("*") if "__pycache__" not in path.parts]
        self.assertEqual(sorted(found), FILES)
        for path in found:
            self.assertRegex(path.name, r"^([a-z][a-z0-9_]*|__init__|__main__)\.py$")

    def test_signs_and_size(self):
        for file in FILES:
            text = file.read_bytes()
            self.assertEqual([sign for sign in text if sign != 10 and not 32 <= sign <= 126], [])
            lines = text.decode("ascii").split("\n")
            self.assertLessEqual(len(lines), 401)
            self.assertLessEqual(max(len(line) for line in lines), 120)

    def test_words_that_stand_nowhere(self):
        for file in FILES:
            text = file.read_text(encoding="utf-8")
            self.assertEqual(set(re.findall(r"\w+", text)) & set(WORDS), set())
            self.assertNotRegex(text, "dataclass|overload|contextmanager")


class Code(unittest.TestCase):
    def test_only_what_is_allowed_and_no_import(self):
        for node in nodes():
            self.assertIsInstance(node, NODES)

    def test_functions_are_small_and_plain(self):
        for node in nodes():
            if isinstance(node, ast.FunctionDef):
                self.assertLessEqual(node.end_lineno - node.lineno + 1, 40, node.name)
                self.assertEqual(node.decorator_list, [])
                self.assertIsNone(node.args.vararg)
                self.assertIsNone(node.args.kwarg)
                self.assertEqual(node.args.kwonlyargs, [])

    def test_operators_and_numbers(self):
        for node in nodes():
            self.assertNotIsInstance(node, (ast.Div, ast.MatMult, ast.Pow))
            if isinstance(node, ast.Constant):
                self.assertIsInstance(node.value, (int, str, type(None)))
            if isinstance(node, (ast.For, ast.While)):
                self.assertEqual(node.orelse, [])
            if isinstance(node, ast.Assign):
                self.assertEqual(len(node.targets), 1)
                self.assertIsInstance(node.targets[0], (ast.Name, ast.Subscript))

    def test_comprehensions_and_keywords(self):
        for node in nodes():
            if isinstance(node, ast.ListComp):
                self.assertEqual(len(node.generators), 1)
                self.assertLessEqual(len(node.generators[0].ifs), 1)
                self.assertNotIsInstance(node.elt, ast.ListComp)
            if isinstance(node, ast.Call):
                for keyword in node.keywords:
                    self.assertIn((node.func.id, keyword.arg), [("sorted", "key"), ("max", "default")])
            self.assertNotIsInstance(node, (ast.Is, ast.IsNot))

    def test_nothing_kept_at_the_top(self):
        for file in FILES:
            for node in ast.parse(file.read_text(encoding="utf-8")).body:
                if isinstance(node, ast.Assign):
                    ast.literal_eval(node.value)
                    self.assertNotIsInstance(node.value, (ast.List, ast.Dict))
                elif isinstance(node, ast.Expr):
                    self.assertIsInstance(ast.literal_eval(node.value), str)
                else:
                    self.assertIsInstance(node, ast.FunctionDef)

    def test_names(self):
        for file in FILES:
            tree = ast.parse(file.read_text(encoding="utf-8"))
            bound = bound_names(tree)
            self.assertEqual({name for name in bound if name in dir(builtins) or name.startswith("_")}, set())
            read = {node.id for node in ast.walk(tree) if isinstance(node, ast.Name)}
            self.assertEqual(read - bound - set(OWN_NAMES), set())
            used = {node.attr for node in ast.walk(tree) if isinstance(node, ast.Attribute)}
            self.assertEqual(used - set(METHODS), set())


if __name__ == "__main__":
    unittest.main()
