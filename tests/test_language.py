"""The form of the package's own files: the rules of LANGUAGE.md that a program can see."""

import ast
import builtins
import pathlib
import re
import unittest

PACKAGE = pathlib.Path(__file__).resolve().parent.parent / "paperoffice"
FILES = sorted(path for path in PACKAGE.rglob("*") if path.is_file() and path.parent.name != "__pycache__")

BUILTINS = set("""len range enumerate zip min max sum abs sorted reversed int str bool list tuple dict set frozenset
isinstance ord repr any all divmod Exception ValueError TypeError KeyError IndexError LookupError ZeroDivisionError
ArithmeticError OverflowError RuntimeError NotImplementedError AttributeError StopIteration""".split())
METHODS = set("""append clear copy count endswith extend find get index insert isalnum isalpha isdigit islower isspace
isupper items join keys ljust lower lstrip partition pop remove replace reverse rfind rjust rpartition rsplit rstrip
setdefault split splitlines startswith strip update upper values zfill bit_length""".split())
NOT_AS_WORDS = set("""type typing typing_extensions enum Enum IntEnum StrEnum Flag IntFlag Generic Protocol ABC ABCMeta
namedtuple NamedTuple TypedDict TYPE_CHECKING abstractmethod""".split())
NOT_WITHIN_WORDS = ("dataclass", "overload", "contextmanager")
NOT_AS_NAMES = set("register mro elements open input version_info with_traceback add_note format format_map".split())
SPECIAL = {"__init__", "__eq__", "__repr__", "__str__", "__len__"}
NODES = (
    ast.Module, ast.FunctionDef, ast.ClassDef, ast.arguments, ast.arg, ast.Return, ast.Assign, ast.AugAssign, ast.If,
    ast.While, ast.For, ast.Break, ast.Continue, ast.Pass, ast.Raise, ast.Try, ast.ExceptHandler, ast.Expr,
    ast.ImportFrom, ast.alias, ast.Constant, ast.Name, ast.Attribute, ast.Subscript, ast.Slice, ast.List, ast.Tuple,
    ast.Dict, ast.BinOp, ast.UnaryOp, ast.BoolOp, ast.Compare, ast.IfExp, ast.Call, ast.keyword, ast.ListComp,
    ast.comprehension, ast.Lambda, ast.JoinedStr, ast.FormattedValue, ast.operator, ast.unaryop, ast.boolop, ast.cmpop,
    ast.expr_context,
)


def is_plain(value):
    """Whether this may be given to a name at the top of a file."""
    if isinstance(value, ast.UnaryOp) and isinstance(value.op, ast.USub):
        return isinstance(value.operand, ast.Constant)
    if isinstance(value, (ast.List, ast.Tuple)):
        return all(is_plain(each) for each in value.elts)
    if isinstance(value, ast.Dict):
        return all(is_plain(each) for each in value.keys + value.values)
    return isinstance(value, ast.Constant) and isinstance(value.value, (int, str, type(None)))


class TestLanguage(unittest.TestCase):
    def nodes(self, *kinds):
        for path in FILES:
            for node in ast.walk(ast.parse(path.read_text("utf-8"))):
                if isinstance(node, kinds or ast.AST):
                    yield f"{path.name}:{getattr(node, 'lineno', 0)}", node

    def test_files(self):
        self.assertIn("__init__.py", [path.name for path in FILES])
        for path in FILES:
            self.assertRegex(path.name, r"^(__init__|[a-z][a-z0-9_]*)\.py$")
            self.assertNotIn(path.stem, dir(builtins))

    def test_signs_and_size(self):
        for path in FILES:
            text = path.read_text("utf-8")
            self.assertRegex(text, r"\A[ -~\n]*\Z", path.name)
            self.assertLessEqual(len(text.splitlines()), 400, path.name)
            self.assertLessEqual(max(len(line) for line in text.splitlines()), 120, path.name)
        for place, node in self.nodes(ast.FunctionDef):
            self.assertLessEqual(node.end_lineno - node.lineno + 1, 40, place)

    def test_words(self):
        for path in FILES:
            text = path.read_text("utf-8")
            self.assertEqual(NOT_AS_WORDS & set(re.findall(r"\w+", text)), set(), path.name)
            for word in NOT_WITHIN_WORDS:
                self.assertNotIn(word, text, path.name)

    def test_statements_and_expressions(self):
        for place, node in self.nodes():
            self.assertIsInstance(node, NODES, place)
            self.assertFalse(isinstance(node, (ast.Div, ast.MatMult)), place)
            self.assertFalse(isinstance(node, (ast.For, ast.While)) and node.orelse, place)
            self.assertFalse(isinstance(node, ast.Try) and node.finalbody, place)
            self.assertFalse(isinstance(node, (ast.FunctionDef, ast.ClassDef)) and node.decorator_list, place)
            self.assertFalse(isinstance(node, ast.Assign) and len(node.targets) > 1, place)
            self.assertFalse(isinstance(node, ast.Constant) and isinstance(node.value, (float, bytes)), place)

    def test_comprehensions_have_one_for_and_at_most_one_if(self):
        for place, node in self.nodes(ast.ListComp):
            self.assertEqual(len(node.generators), 1, place)
            self.assertLessEqual(len(node.generators[0].ifs), 1, place)

    def test_is_stands_beside_none_true_false_alone(self):
        for place, node in self.nodes(ast.Compare):
            for sign, right in zip(node.ops, node.comparators):
                if isinstance(sign, (ast.Is, ast.IsNot)):
                    self.assertTrue(isinstance(right, ast.Constant) and right.value in (None, True, False), place)

    def test_the_top_of_each_file(self):
        for path in FILES:
            tree = ast.parse(path.read_text("utf-8"))
            self.assertTrue(ast.get_docstring(tree), path.name)
            bound = []
            for node in tree.body[1:]:
                self.assertIsInstance(node, (ast.ImportFrom, ast.FunctionDef, ast.ClassDef, ast.Assign), path.name)
                if isinstance(node, ast.Assign):
                    self.assertTrue(is_plain(node.value), f"{path.name}:{node.lineno}")
                    bound.append(node.targets[0].id)
                elif isinstance(node, ast.ImportFrom):
                    bound.extend(each.name for each in node.names)
                else:
                    bound.append(node.name)
            self.assertEqual(len(bound), len(set(bound)), path.name)

    def test_imports_come_from_the_file_that_defines_the_name(self):
        drawn = {path.stem: set() for path in FILES}
        for path in FILES:
            for node in ast.walk(ast.parse(path.read_text("utf-8"))):
                if isinstance(node, ast.ImportFrom):
                    self.assertEqual(node.level, 0, path.name)
                    package, stem = node.module.split(".")
                    self.assertEqual(package, "paperoffice", path.name)
                    source = (PACKAGE / f"{stem}.py").read_text("utf-8")
                    for each in node.names:
                        self.assertIsNone(each.asname, path.name)
                        self.assertRegex(source, rf"(?m)^(def |class |){each.name}\b", path.name)
                    drawn[path.stem].add(stem)
        self.assertEqual(drawn["__init__"], set())
        while drawn:
            free = [stem for stem in drawn if not drawn[stem]]
            self.assertTrue(free, f"files that draw from one another: {sorted(drawn)}")
            drawn = {stem: drawn[stem] - set(free) for stem in drawn if stem not in free}

    def test_names(self):
        for place, node in self.nodes(ast.Name, ast.arg, ast.Attribute, ast.FunctionDef, ast.ClassDef):
            name = (getattr(node, "id", None) or getattr(node, "arg", None)
                    or getattr(node, "attr", None) or getattr(node, "name", None))
            self.assertTrue(name in SPECIAL or re.fullmatch(r"[A-Za-z][A-Za-z0-9_]*", name), place)
            self.assertNotIn(name, NOT_AS_NAMES, place)
            if name in dir(builtins):
                self.assertIn(name, BUILTINS, place)
                self.assertTrue(isinstance(node, ast.Name) and isinstance(node.ctx, ast.Load), place)

    def test_methods_that_are_called(self):
        own = {node.name for place, node in self.nodes(ast.FunctionDef)}
        for place, node in self.nodes(ast.Call):
            if isinstance(node.func, ast.Attribute):
                self.assertIn(node.func.attr, METHODS | own, place)

    def test_parameters_are_plain(self):
        for place, node in self.nodes(ast.arguments):
            self.assertFalse(node.vararg or node.kwarg or node.kwonlyargs or node.posonlyargs, place)


if __name__ == "__main__":
    unittest.main()
