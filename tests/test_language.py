"""The package keeps to ../shared/LANGUAGE.md, as far as a short reading of its trees can tell.

Not all rules are seen here; each test bears the numbers of those of which it sees a part.
"""

import ast
import builtins
import pathlib
import re
import unittest

PACKAGE = pathlib.Path(__file__).resolve().parent.parent / "signalbox"

STATEMENTS = (
    ast.Assign, ast.AugAssign, ast.If, ast.While, ast.For, ast.Return, ast.Break, ast.Continue, ast.Pass,
    ast.Raise, ast.Try, ast.FunctionDef, ast.ClassDef, ast.ImportFrom, ast.Expr,
)
EXPRESSIONS = (
    ast.Constant, ast.List, ast.Tuple, ast.Dict, ast.Set, ast.BinOp, ast.UnaryOp, ast.BoolOp, ast.Compare,
    ast.IfExp, ast.Call, ast.Attribute, ast.Subscript, ast.Slice, ast.ListComp, ast.JoinedStr,
    ast.FormattedValue, ast.Name, ast.Lambda,
)
BUILT_IN = """
    len range enumerate zip min max sum abs sorted reversed int str bool list tuple dict set frozenset
    isinstance ord repr any all divmod Exception ValueError TypeError KeyError IndexError LookupError
    ZeroDivisionError ArithmeticError OverflowError RuntimeError NotImplementedError AttributeError
    StopIteration
""".split()
METHODS = """
    append clear copy count endswith extend find get index insert isalnum isalpha isdigit islower isspace
    isupper items join keys ljust lower lstrip partition pop remove replace reverse rfind rjust rpartition
    rsplit rstrip setdefault split splitlines startswith strip update upper values zfill bit_length
""".split()
OWN_DUNDERS = ["__init__", "__eq__", "__repr__", "__str__", "__len__"]
WORDS_OUT = """
    type typing typing_extensions enum Enum IntEnum StrEnum Flag IntFlag Generic Protocol ABC ABCMeta
    namedtuple NamedTuple TypedDict TYPE_CHECKING abstractmethod
""".split()
NAMES_OUT = """
    register mro elements open input version_info with_traceback add_note attrgetter breakpoint builtins
    compile copyright credits delattr dir eval exec exit gc getattr globals hasattr help id importlib
    license locals methodcaller os quit setattr super vars sys
""".split()


def files():
    return sorted(path for path in PACKAGE.rglob("*") if "__pycache__" not in path.parts)


def sources():
    return [(path.name, path.read_text(encoding="utf-8")) for path in files() if path.suffix == ".py"]


def trees():
    return [(name, ast.parse(text)) for name, text in sources()]


def nodes(*kinds):
    for name, tree in trees():
        for node in ast.walk(tree):
            if isinstance(node, kinds):
                yield f"{name}:{getattr(node, 'lineno', 0)}", node


def bound_names(node):
    if isinstance(node, (ast.FunctionDef, ast.ClassDef)):
        return [node.name]
    if isinstance(node, ast.arg):
        return [node.arg]
    if isinstance(node, ast.Name) and isinstance(node.ctx, ast.Store):
        return [node.id]
    if isinstance(node, ast.ExceptHandler) and node.name:
        return [node.name]
    return []


def is_plain_value(node):
    allowed = (ast.Constant, ast.List, ast.Tuple, ast.Dict, ast.Name, ast.UnaryOp, ast.USub, ast.Load)
    return all(isinstance(part, allowed) for part in ast.walk(node))


class TestLanguage(unittest.TestCase):
    def test_l1_l14_files(self):
        self.assertIn("__init__.py", [path.name for path in files()])
        for path in files():
            self.assertTrue(path.is_file(), path)
            self.assertRegex(path.name, r"\A([a-z][a-z0-9_]*|__init__|__main__)\.py\Z")
            self.assertNotIn(path.stem, ["test", "tests", "testing", "site", "conftest"] + dir(builtins))

    def test_l10_l14_size_and_signs(self):
        for name, text in sources():
            self.assertLessEqual(len(text.split("\n")), 400, name)
            for line in text.split("\n"):
                self.assertLessEqual(len(line), 120, name)
            self.assertRegex(text, r"\A[ -~\n]*\Z", name)
        for where, node in nodes(ast.FunctionDef):
            self.assertLessEqual(node.end_lineno - node.lineno + 1, 40, where)

    def test_l2_l16_imports(self):
        own = {name[:-3] for name, text in sources()}
        for where, node in nodes(ast.Import, ast.ImportFrom):
            self.assertIsInstance(node, ast.ImportFrom, where)
            self.assertEqual(node.level, 0, where)
            self.assertRegex(node.module, r"\Asignalbox\.[a-z0-9_]+\Z", where)
            self.assertIn(node.module.split(".")[1], own, where)
            self.assertNotIn("*", [alias.name for alias in node.names], where)

    def test_l3_l15_the_top_of_a_module(self):
        for name, tree in trees():
            bound = []
            for node in tree.body:
                is_docstring = node is tree.body[0] and isinstance(node, ast.Expr)
                self.assertTrue(
                    is_docstring or isinstance(node, (ast.ImportFrom, ast.FunctionDef, ast.ClassDef, ast.Assign)), name
                )
                if isinstance(node, ast.Assign):
                    self.assertTrue(is_plain_value(node.value), name)
                    bound.append(node.targets[0].id)
                elif isinstance(node, (ast.FunctionDef, ast.ClassDef)):
                    bound.append(node.name)
                elif isinstance(node, ast.ImportFrom):
                    bound.extend(alias.name for alias in node.names)
            self.assertEqual(len(bound), len(set(bound)), name)

    def test_l4_functions(self):
        for where, node in nodes(ast.FunctionDef, ast.Lambda):
            self.assertFalse(node.args.vararg or node.args.kwarg, where)
            self.assertFalse(node.args.kwonlyargs or node.args.posonlyargs, where)
            self.assertFalse(getattr(node, "decorator_list", []), where)

    def test_l5_classes(self):
        for where, node in nodes(ast.ClassDef):
            self.assertLessEqual(len(node.bases), 1, where)
            self.assertFalse(node.keywords or node.decorator_list, where)
            for part in node.body:
                self.assertIsInstance(part, (ast.FunctionDef, ast.Pass), where)

    def test_l6_statements(self):
        for where, node in nodes(ast.stmt):
            self.assertIsInstance(node, STATEMENTS, where)
            if isinstance(node, ast.Assign):
                self.assertEqual(len(node.targets), 1, where)
            if isinstance(node, (ast.While, ast.For)):
                self.assertEqual(node.orelse, [], where)
            if isinstance(node, ast.Try):
                self.assertEqual(node.finalbody, [], where)
            if isinstance(node, ast.Expr) and node.lineno > 1:
                self.assertIsInstance(node.value, ast.Call, where)

    def test_l7_l20_l27_expressions(self):
        for where, node in nodes(ast.expr):
            self.assertIsInstance(node, EXPRESSIONS, where)
            if isinstance(node, ast.Constant):
                self.assertIn(type(node.value), (int, str, bool, type(None)), where)
                self.assertNotIn("%", str(node.value), where)
            if isinstance(node, ast.BinOp):
                self.assertNotIsInstance(node.op, (ast.Div, ast.MatMult), where)
            if isinstance(node, ast.ListComp):
                self.assertEqual(len(node.generators), 1, where)
                self.assertLessEqual(len(node.generators[0].ifs), 1, where)
            if isinstance(node, ast.FormattedValue):
                self.assertIsInstance(node.value, ast.Name, where)
                self.assertIsNone(node.format_spec, where)
            if isinstance(node, ast.Compare):
                for operator, right in zip(node.ops, node.comparators):
                    if isinstance(operator, (ast.Is, ast.IsNot)):
                        self.assertIn(ast.unparse(right), ["None", "True", "False"], where)

    def test_l8_l12_l15_names(self):
        for where, node in nodes(ast.AST):
            for name in bound_names(node):
                self.assertNotIn(name, dir(builtins), where)
                if name not in OWN_DUNDERS:
                    self.assertRegex(name, r"\A[A-Za-z][A-Za-z0-9_]*\Z", where)
            if isinstance(node, ast.Name) and node.id in dir(builtins):
                self.assertIn(node.id, BUILT_IN, where)

    def test_l15_locals_are_not_called_like_the_file_s_classes_and_imports(self):
        for name, tree in trees():
            taken = [node.name for node in tree.body if isinstance(node, ast.ClassDef)]
            for node in tree.body:
                if isinstance(node, ast.ImportFrom):
                    taken.extend(alias.name for alias in node.names)
            for node in ast.walk(tree):
                if isinstance(node, (ast.arg, ast.Name, ast.ExceptHandler)):
                    for bound in bound_names(node):
                        self.assertNotIn(bound, taken, name)

    def test_l17_words(self):
        for name, text in sources():
            words = re.findall(r"[A-Za-z0-9_]+", text)
            for word in WORDS_OUT:
                self.assertNotIn(word, words, name)
            for part in ("dataclass", "overload", "contextmanager"):
                self.assertNotIn(part, text, name)
        for where, node in nodes(ast.Name, ast.Attribute):
            self.assertNotIn(node.id if isinstance(node, ast.Name) else node.attr, NAMES_OUT, where)

    def test_l21_annotations(self):
        for where, node in nodes(ast.FunctionDef, ast.arg):
            self.assertIsNone(node.returns if isinstance(node, ast.FunctionDef) else node.annotation, where)

    def test_l25_methods(self):
        own = [part.name for where, node in nodes(ast.ClassDef) for part in node.body if hasattr(part, "name")]
        for where, node in nodes(ast.Call):
            if isinstance(node.func, ast.Attribute):
                self.assertIn(node.func.attr, METHODS + own, where)


    def test_l16_no_two_files_draw_from_one_another(self):
        draws = {}
        for name, tree in trees():
            draws[name[:-3]] = [node.module.split(".")[1] for node in tree.body if isinstance(node, ast.ImportFrom)]
        left = dict(draws)
        while left:
            free = [name for name in left if not any(other in left for other in draws[name])]
            self.assertTrue(free, left)
            for name in free:
                left.pop(name)

    def test_l16_names_come_from_the_file_that_defines_them(self):
        defined = {
            name[:-3]: [node.name for node in tree.body if isinstance(node, (ast.FunctionDef, ast.ClassDef))]
            + [node.targets[0].id for node in tree.body if isinstance(node, ast.Assign)]
            for name, tree in trees()
        }
        for where, node in nodes(ast.ImportFrom):
            for alias in node.names:
                self.assertIn(alias.name, defined[node.module.split(".")[1]], where)

    def test_l18_l26_methods_and_values(self):
        methods = [part.name for where, node in nodes(ast.ClassDef) for part in node.body if hasattr(part, "name")]
        values = [node.attr for where, node in nodes(ast.Attribute) if isinstance(node.ctx, ast.Store)]
        self.assertEqual(set(methods) & set(values), set())
        taken = [name for kind in (str, int, list, dict, set, bytes) for name in dir(kind)]
        for name in methods + values:
            self.assertTrue(name in OWN_DUNDERS or name not in taken, name)

    def test_l23_what_a_loop_walks_is_not_changed_in_it(self):
        changes = ("append", "clear", "extend", "insert", "pop", "remove", "reverse", "setdefault", "update")
        for where, loop in nodes(ast.For):
            walked = ast.unparse(loop.iter)
            for node in [part for row in loop.body for part in ast.walk(row)]:
                if isinstance(node, ast.Call) and isinstance(node.func, ast.Attribute) and node.func.attr in changes:
                    self.assertNotIn(walked, (ast.unparse(node.func.value), ast.unparse(node.func.value) + ".items()"))

    def test_l28_init_gives_back_nothing(self):
        for where, node in nodes(ast.FunctionDef):
            if node.name == "__init__":
                self.assertFalse([part for part in ast.walk(node) if isinstance(part, ast.Return)], where)


if __name__ == "__main__":
    unittest.main()
