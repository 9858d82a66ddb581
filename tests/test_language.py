"""The form of the package's own files: the rules of LANGUAGE.md that a program can see."""

import ast
import builtins
import pathlib
import re
import unittest

PACKAGE = pathlib.Path(__file__).resolve().parent.parent / "paperoffice"
FILES = sorted(path for path in PACKAGE.rglob("*") if path.is_file() and path.parent.name != "__pycache__")

BUILTINS = set("""len range enumerate zip min max sum abs sorted reversed int str bool list tuple dict set frozenset
isinstance ord repr any all divmod Exception ValueError TypeError KeyError IndexError LookupError ZeroDivisionError
ArithmeticError OverflowError RuntimeError NotImplementedError AttributeError StopIteration""".split())
METHODS = set("""append clear copy count endswith extend find get index insert isalnum isalpha isdigit islower isspace
isupper items join keys ljust lower lstrip partition pop remove replace reverse rfind rjust rpartition rsplit rstrip
setdefault split splitlines startswith strip update upper values zfill bit_length""".split())
NOT_AS_WORDS = set("""type typing typing_extensions enum Enum IntEnum StrEnum Flag IntFlag Generic Protocol ABC ABCMeta
namedtuple NamedTuple TypedDict TYPE_CHECKING abstractmethod""".split())
NOT_WITHIN_WORDS = ("dataclass", "overload", "contextmanager")
NOT_AS_NAMES = set("register mro elements open input version_info with_traceback add_note format format_map".split())
SPECIAL = {"__init__", "__eq__", "__repr__", "__str__", "__len__"}
NOT_AS_NAMES_ALONE = set("""attrgetter breakpoint builtins compile copyright credits delattr dir eval exec exit gc getattr
globals hasattr help id importlib license locals methodcaller os quit setattr super type vars sys __name__""".split())
NOT_AS_FILES = re.compile(r"test|tests|testing|test_.*|site|conftest|sitecustomize|usercustomize")
WALKED_AT_ONCE = {"zip", "enumerate", "reversed", "range", "items", "keys", "values"}
WALKERS = {"list", "tuple", "dict", "sorted", "sum", "any", "all", "enumerate", "zip", "min", "max"}
CHANGES = {"append", "clear", "extend", "insert", "pop", "remove", "reverse", "setdefault", "update"}
# Narrower than LANGUAGE.md: errors, lambdas, f-strings, sets and keywords have rules of their own, and the package
# needs none of them.
NODES = (
    ast.Module, ast.FunctionDef, ast.ClassDef, ast.arguments, ast.arg, ast.Return, ast.Assign, ast.AugAssign, ast.If,
    ast.While, ast.For, ast.Break, ast.Continue, ast.Pass, ast.Expr, ast.ImportFrom, ast.alias, ast.Constant, ast.Name,
    ast.Attribute, ast.Subscript, ast.Slice, ast.List, ast.Tuple, ast.Dict, ast.BinOp, ast.UnaryOp, ast.BoolOp,
    ast.Compare, ast.IfExp, ast.Call, ast.ListComp, ast.comprehension, ast.operator, ast.unaryop, ast.boolop,
    ast.cmpop, ast.expr_context,
)


def is_plain(value):
    """Whether this may be given to a name at the top of a file."""
    if isinstance(value, ast.UnaryOp) and isinstance(value.op, ast.USub):
        return isinstance(value.operand, ast.Constant)
    if isinstance(value, (ast.List, ast.Tuple)):
        return all(is_plain(each) for each in value.elts)
    if isinstance(value, ast.Dict):
        return all(is_plain(each) for each in value.keys + value.values)
    return isinstance(value, ast.Constant) and isinstance(value.value, (int, str, type(None)))


class TestLanguage(unittest.TestCase):
    def nodes(self, *kinds):
        for path in FILES:
            for node in ast.walk(ast.parse(path.read_text("utf-8"))):
                if isinstance(node, kinds or ast.AST):
                    yield f"{path.name}:{getattr(node, 'lineno', 0)}", node

    def test_files(self):
        self.assertIn("__init__.py", [path.name for path in FILES])
        for path in FILES:
            self.assertRegex(path.name, r"^(__init__|[a-z][a-z0-9_]*)\.py$")
            self.assertNotIn(path.stem, dir(builtins))
            self.assertIsNone(NOT_AS_FILES.fullmatch(path.stem), path.name)
            self.assertEqual(path.parent, PACKAGE)

    def test_signs_and_size(self):
        for path in FILES:
            text = path.read_text("utf-8")
            self.assertRegex(text, r"\A[ -~\n]*\Z", path.name)
            self.assertLessEqual(len(text.splitlines()), 400, path.name)
            self.assertLessEqual(max(len(line) for line in text.splitlines()), 120, path.name)
        for place, node in self.nodes(ast.FunctionDef):
            self.assertLessEqual(node.end_lineno - node.lineno + 1, 40, place)

    def test_words(self):
        for path in FILES:
            text = path.read_text("utf-8")
            self.assertEqual(NOT_AS_WORDS & set(re.findall(r"\w+", text)), set(), path.name)
            for word in NOT_WITHIN_WORDS:
                self.assertNotIn(word, text, path.name)

    def test_statements_and_expressions(self):
        for place, node in self.nodes():
            self.assertIsInstance(node, NODES, place)
            self.assertFalse(isinstance(node, (ast.Div, ast.MatMult, ast.Pow)), place)
            self.assertFalse(isinstance(node, (ast.For, ast.While)) and node.orelse, place)
            self.assertFalse(isinstance(node, (ast.FunctionDef, ast.ClassDef)) and node.decorator_list, place)
            self.assertFalse(isinstance(node, ast.Assign) and len(node.targets) > 1, place)
            self.assertFalse(isinstance(node, ast.Constant) and isinstance(node.value, (float, bytes)), place)

    def test_comprehensions_have_one_for_and_at_most_one_if(self):
        for place, node in self.nodes(ast.ListComp):
            self.assertEqual(len(node.generators), 1, place)
            self.assertLessEqual(len(node.generators[0].ifs), 1, place)

    def test_is_stands_beside_none_true_false_alone(self):
        for place, node in self.nodes(ast.Compare):
            for sign, right in zip(node.ops, node.comparators):
                if isinstance(sign, (ast.Is, ast.IsNot)):
                    self.assertTrue(isinstance(right, ast.Constant) and right.value in (None, True, False), place)

    def test_the_top_of_each_file(self):
        for path in FILES:
            tree = ast.parse(path.read_text("utf-8"))
            self.assertTrue(ast.get_docstring(tree), path.name)
            bound = []
            for node in tree.body[1:]:
                self.assertIsInstance(node, (ast.ImportFrom, ast.FunctionDef, ast.ClassDef, ast.Assign), path.name)
                if isinstance(node, ast.Assign):
                    self.assertTrue(is_plain(node.value), f"{path.name}:{node.lineno}")
                    bound.append(node.targets[0].id)
                elif isinstance(node, ast.ImportFrom):
                    bound.extend(each.name for each in node.names)
                else:
                    bound.append(node.name)
            self.assertEqual(len(bound), len(set(bound)), path.name)

    def test_imports_come_from_the_file_that_defines_the_name(self):
        drawn = {path.stem: set() for path in FILES}
        for path in FILES:
            for node in ast.walk(ast.parse(path.read_text("utf-8"))):
                if isinstance(node, ast.ImportFrom):
                    self.assertEqual(node.level, 0, path.name)
                    package, stem = node.module.split(".")
                    self.assertEqual(package, "paperoffice", path.name)
                    source = (PACKAGE / f"{stem}.py").read_text("utf-8")
                    for each in node.names:
                        self.assertIsNone(each.asname, path.name)
                        self.assertRegex(source, rf"(?m)^(def |class |){each.name}\b", path.name)
                    drawn[path.stem].add(stem)
        self.assertEqual(drawn["__init__"], set())
        while drawn:
            free = [stem for stem in drawn if not drawn[stem]]
            self.assertTrue(free, f"files that draw from one another: {sorted(drawn)}")
            drawn = {stem: drawn[stem] - set(free) for stem in drawn if stem not in free}

    def test_names(self):
        for place, node in self.nodes(ast.Name, ast.arg, ast.Attribute, ast.FunctionDef, ast.ClassDef):
            name = (getattr(node, "id", None) or getattr(node, "arg", None)
                    or getattr(node, "attr", None) or getattr(node, "name", None))
            self.assertTrue(name in SPECIAL or re.fullmatch(r"[A-Za-z][A-Za-z0-9_]*", name), place)
            self.assertNotIn(name, NOT_AS_NAMES, place)
            if name in dir(builtins):
                self.assertIn(name, BUILTINS, place)
                self.assertTrue(isinstance(node, ast.Name) and isinstance(node.ctx, ast.Load), place)
            if not isinstance(node, ast.Attribute):
                self.assertNotIn(name, NOT_AS_NAMES_ALONE, place)

    def test_methods_that_are_called(self):
        own = {node.name for place, node in self.nodes(ast.FunctionDef)}
        for place, node in self.nodes(ast.Call):
            if isinstance(node.func, ast.Attribute):
                self.assertIn(node.func.attr, METHODS | own, place)

    def test_parameters_are_plain(self):
        for place, node in self.nodes(ast.arguments):
            self.assertFalse(node.vararg or node.kwarg or node.kwonlyargs or node.posonlyargs, place)
            self.assertTrue(all(is_plain(value) for value in node.defaults), place)
        for place, node in self.nodes(ast.FunctionDef):
            self.assertIsNone(node.returns, place)
        for place, node in self.nodes(ast.arg):
            self.assertIsNone(node.annotation, place)

    def test_texts_and_numbers(self):
        for place, node in self.nodes(ast.Constant):
            if isinstance(node.value, str):
                self.assertNotIn("%", node.value, place)
        for path in FILES:
            self.assertNotIn("\\", path.read_text("utf-8"), path.name)

    def test_calls_by_place_alone(self):
        for place, node in self.nodes(ast.Call):
            self.assertEqual(node.keywords, [], place)

    def test_own_names_of_python_are_called(self):
        for path in FILES:
            tree = ast.parse(path.read_text("utf-8"))
            called = [id(node.func) for node in ast.walk(tree) if isinstance(node, ast.Call)]
            for node in ast.walk(tree):
                if isinstance(node, ast.Name) and node.id in BUILTINS:
                    self.assertIn(id(node), called, f"{path.name}:{node.lineno}")
                if isinstance(node, ast.Attribute) and node.attr in METHODS:
                    self.assertIn(id(node), called, f"{path.name}:{node.lineno}")

    def test_walked_at_once(self):
        for path in FILES:
            tree = ast.parse(path.read_text("utf-8"))
            walked = []
            for node in ast.walk(tree):
                if isinstance(node, (ast.For, ast.comprehension)):
                    walked.append(id(node.iter))
                if isinstance(node, ast.Call) and isinstance(node.func, ast.Name) and node.func.id in WALKERS:
                    walked.extend(id(each) for each in node.args)
            for node in ast.walk(tree):
                if isinstance(node, ast.Call):
                    name = getattr(node.func, "id", None) or getattr(node.func, "attr", None)
                    self.assertTrue(name not in WALKED_AT_ONCE or id(node) in walked, f"{path.name}:{node.lineno}")

    def test_what_a_loop_walks_is_not_changed_in_it(self):
        for place, node in self.nodes(ast.For):
            over = node.iter.args[0] if isinstance(node.iter, ast.Call) and node.iter.args else node.iter
            for within in ast.walk(node):
                if isinstance(within, ast.Call) and isinstance(within.func, ast.Attribute) and within.func.attr in CHANGES:
                    self.assertNotEqual(ast.dump(within.func.value), ast.dump(over), place)
                if isinstance(within, ast.Subscript) and isinstance(within.ctx, ast.Store):
                    self.assertNotEqual(ast.dump(within.value), ast.dump(over), place)

    def test_no_local_is_called_like_a_class_or_an_import_of_its_file(self):
        for path in FILES:
            tree = ast.parse(path.read_text("utf-8"))
            taken = {node.name for node in tree.body if isinstance(node, ast.ClassDef)}
            taken |= {each.name for node in tree.body if isinstance(node, ast.ImportFrom) for each in node.names}
            for outer in tree.body:
                if isinstance(outer, (ast.FunctionDef, ast.ClassDef)):
                    for node in ast.walk(outer):
                        if isinstance(node, ast.arg):
                            self.assertNotIn(node.arg, taken, f"{path.name}:{node.lineno}")
                        if isinstance(node, ast.Name) and isinstance(node.ctx, ast.Store):
                            self.assertNotIn(node.id, taken, f"{path.name}:{node.lineno}")

    def test_lists_and_dicts_of_a_file_s_top_are_only_read(self):
        for path in FILES:
            tree = ast.parse(path.read_text("utf-8"))
            kept = [node.targets[0].id for node in tree.body
                    if isinstance(node, ast.Assign) and isinstance(node.value, (ast.List, ast.Dict))]
            read = [id(node.value) for node in ast.walk(tree)
                    if isinstance(node, ast.Subscript) and isinstance(node.ctx, ast.Load)]
            for node in ast.walk(tree):
                if isinstance(node, ast.Name) and node.id in kept and isinstance(node.ctx, ast.Load):
                    self.assertIn(id(node), read, f"{path.name}:{node.lineno}")
            for node in tree.body:
                if isinstance(node, ast.Assign) and isinstance(node.value, (ast.List, ast.Dict)):
                    inner = [each for each in ast.walk(node.value) if isinstance(each, (ast.List, ast.Dict))]
                    self.assertEqual(inner, [node.value], f"{path.name}:{node.lineno}")

    def test_classes_are_plain(self):
        for place, node in self.nodes(ast.ClassDef):
            self.assertEqual(node.bases, [], place)
            for each in node.body:
                self.assertTrue(isinstance(each, ast.FunctionDef)
                                or isinstance(each, ast.Expr) and isinstance(each.value, ast.Constant), place)
        methods = {each.name for place, node in self.nodes(ast.ClassDef)
                   for each in node.body if isinstance(each, ast.FunctionDef)}
        values = {node.attr for place, node in self.nodes(ast.Attribute) if isinstance(node.ctx, ast.Store)}
        self.assertEqual(methods & values, set())
        self.assertEqual(values & (METHODS | set(dir(str)) | set(dir(int)) | set(dir(list)) | set(dir(dict))), set())
        for place, node in self.nodes(ast.Attribute):
            if isinstance(node.ctx, ast.Store):
                self.assertIsInstance(node.value, ast.Name, place)

    def test_classes_are_called_alone(self):
        classes = {node.name for place, node in self.nodes(ast.ClassDef)}
        for path in FILES:
            tree = ast.parse(path.read_text("utf-8"))
            called = [id(node.func) for node in ast.walk(tree) if isinstance(node, ast.Call)]
            for node in ast.walk(tree):
                if isinstance(node, ast.Name) and node.id in classes:
                    self.assertIn(id(node), called, f"{path.name}:{node.lineno}")


if __name__ == "__main__":
    unittest.main()
