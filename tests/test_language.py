"""The form of the package's files: what of LANGUAGE.md a walk of the tree can see."""

import ast
import pathlib
import re
import unittest

PACKAGE = pathlib.Path(__file__).resolve().parent.parent / "offerodds"
BUILT_IN = set(
    "len range enumerate zip min max sum abs sorted reversed int str bool list tuple dict set frozenset "
    "isinstance ord repr any all divmod Exception ValueError TypeError KeyError IndexError LookupError "
    "ZeroDivisionError ArithmeticError OverflowError RuntimeError NotImplementedError AttributeError StopIteration"
    .split()
)
METHODS = set(
    "append clear copy count endswith extend find get index insert isalnum isalpha isdigit islower isspace isupper "
    "items join keys ljust lower lstrip partition pop remove replace reverse rfind rjust rpartition rsplit rstrip "
    "setdefault split splitlines startswith strip update upper values zfill bit_length".split()
)
STATEMENTS = (
    ast.FunctionDef, ast.ClassDef, ast.Return, ast.Assign, ast.AugAssign, ast.AnnAssign, ast.For, ast.While, ast.If,
    ast.Raise, ast.Try, ast.ImportFrom, ast.Expr, ast.Pass, ast.Break, ast.Continue,
)
EXPRESSIONS = (
    ast.BoolOp, ast.BinOp, ast.UnaryOp, ast.Lambda, ast.IfExp, ast.Dict, ast.Set, ast.ListComp, ast.Compare, ast.Call,
    ast.JoinedStr, ast.FormattedValue, ast.Constant, ast.Attribute, ast.Subscript, ast.Name, ast.List, ast.Tuple,
    ast.Slice,
)
UNUSED_WORDS = (
    r"\b(type|typing|typing_extensions|enum|Enum|IntEnum|StrEnum|Flag|IntFlag|Generic|Protocol|ABC|ABCMeta|namedtuple"
    r"|NamedTuple|TypedDict|TYPE_CHECKING|abstractmethod)\b|dataclass|overload|contextmanager"
)
UNUSED_NAMES = set(
    "register mro elements open input version_info with_traceback add_note attrgetter breakpoint builtins compile "
    "copyright credits delattr dir eval exec exit gc getattr globals hasattr help id importlib license locals "
    "methodcaller os quit setattr super vars sys format format_map chr print hash next map filter bytes float object"
    .split()
)


def files():
    return sorted(PACKAGE.rglob("*.py"))


def trees():
    return [(path.name, ast.parse(path.read_text("ascii"))) for path in files()]


def nodes(kind):
    return [(f"{name}:{node.lineno}", node) for name, tree in trees() for node in ast.walk(tree)
            if isinstance(node, kind)]


def named_nodes():
    return [(name, node) for name, tree in trees() for node in ast.walk(tree) if bound_names(node)]


def bound_names(node):
    if isinstance(node, (ast.FunctionDef, ast.ClassDef)):
        return [node.name]
    if isinstance(node, ast.arg):
        return [node.arg]
    if isinstance(node, ast.Name) and isinstance(node.ctx, ast.Store):
        return [node.id]
    if isinstance(node, ast.Attribute):
        return [node.attr]
    if isinstance(node, ast.ImportFrom):
        return [alias.name for alias in node.names]
    return []


class Files(unittest.TestCase):
    def test_names_and_nothing_else(self):
        self.assertTrue((PACKAGE / "__init__.py").is_file())
        for path in PACKAGE.rglob("*"):
            if "__pycache__" not in path.parts:
                self.assertRegex(path.name, r"\A([a-z][a-z0-9_]*|__init__|__main__)\.py\Z")

    def test_signs_lines_and_words(self):
        for path in files():
            text = path.read_bytes().decode("ascii")
            self.assertTrue(all(sign == "\n" or " " <= sign <= "~" for sign in text), path.name)
            lines = text.split("\n")
            self.assertLessEqual(len(lines), 399, path.name)
            self.assertLessEqual(max(len(line) for line in lines), 120, path.name)
            self.assertIsNone(re.search(UNUSED_WORDS, text), path.name)

    def test_functions_have_at_most_40_lines(self):
        for where, node in nodes(ast.FunctionDef):
            self.assertLessEqual(node.end_lineno - node.lineno + 1, 40, where)


class Statements(unittest.TestCase):
    def test_kinds(self):
        for where, node in nodes(ast.stmt):
            self.assertIsInstance(node, STATEMENTS, where)
        for where, node in nodes(ast.expr):
            self.assertIsInstance(node, EXPRESSIONS, where)

    def test_the_top_of_a_module(self):
        for name, tree in trees():
            self.assertIsNotNone(ast.get_docstring(tree), name)
            bound = []
            for node in tree.body[1:]:
                self.assertIsInstance(node, (ast.ImportFrom, ast.FunctionDef, ast.ClassDef, ast.Assign), name)
                for inner in [node] + (node.targets if isinstance(node, ast.Assign) else []):
                    bound.extend(bound_names(inner))
            self.assertEqual(len(bound), len(set(bound)), name)

    def test_imports(self):
        drawn = {}
        for name, tree in trees():
            drawn[name] = []
            for node in ast.walk(tree):
                if isinstance(node, ast.ImportFrom):
                    self.assertRegex(node.module, r"\Aofferodds\.[a-z]+\Z")
                    self.assertEqual(node.level, 0)
                    source = node.module.split(".")[1] + ".py"
                    drawn[name].append(source)
                    tops = [bound for top in ast.parse((PACKAGE / source).read_text()).body
                            if isinstance(top, (ast.FunctionDef, ast.ClassDef)) for bound in bound_names(top)]
                    for alias in node.names:
                        self.assertIsNone(alias.asname, name)
                        self.assertIn(alias.name, tops, name)
        while drawn:
            free = [name for name, sources in drawn.items() if not any(source in drawn for source in sources)]
            self.assertTrue(free, f"files that draw from one another: {drawn}")
            for name in free:
                drawn.pop(name)

    def test_assignments_loops_and_tries(self):
        for where, node in nodes(ast.Assign):
            self.assertEqual(len(node.targets), 1, where)
        for where, node in nodes((ast.For, ast.While)):
            self.assertEqual(node.orelse, [], where)
        for where, node in nodes(ast.Expr):
            self.assertIsInstance(node.value, (ast.Call, ast.Constant), where)
        for where, node in nodes(ast.Try):
            self.assertEqual(node.finalbody, [], where)
            for handler in node.handlers:
                self.assertIsInstance(handler.type, ast.Name, where)
                self.assertNotIn(handler.type.id, BUILT_IN - {"KeyError", "ZeroDivisionError", "IndexError"}, where)

    def test_functions(self):
        for where, node in nodes((ast.FunctionDef, ast.Lambda)):
            given = node.args
            plain = [given.vararg, given.kwarg] + given.kwonlyargs + given.posonlyargs
            self.assertEqual(plain, [None, None], where)
        for where, node in nodes((ast.FunctionDef, ast.ClassDef)):
            self.assertEqual(node.decorator_list, [], where)

    def test_classes(self):
        methods = []
        values = []
        for where, node in nodes(ast.ClassDef):
            self.assertLessEqual(len(node.bases), 1, where)
            for inner in node.body:
                if not isinstance(inner, ast.Expr):
                    self.assertIsInstance(inner, ast.FunctionDef, where)
                    methods.append(inner.name)
        for where, node in nodes(ast.Attribute):
            if isinstance(node.ctx, ast.Store):
                values.append(node.attr)
        self.assertEqual(set(methods) & set(values), set())
        python_values = set()
        for kind in (str, int, list, dict, set, tuple, bytes):
            python_values.update(dir(kind))
        free = set("count index title find get join lower upper split strip copy add".split())
        self.assertEqual(set(values) & (python_values - free), set())


class Expressions(unittest.TestCase):
    def test_constants(self):
        for where, node in nodes(ast.Constant):
            self.assertIn(type(node.value), (int, str, bool, type(None)), where)
            if isinstance(node.value, str):
                self.assertNotIn("%", node.value, where)

    def test_operators(self):
        for where, node in nodes((ast.Div, ast.MatMult, ast.Starred, ast.NamedExpr)):
            self.fail(f"{where}: {node}")
        for where, node in nodes(ast.BinOp):
            if isinstance(node.op, ast.Pow):
                self.assertIsInstance(node.right, ast.Constant, where)
        for where, node in nodes(ast.Compare):
            for operator, right in zip(node.ops, node.comparators):
                if isinstance(operator, (ast.Is, ast.IsNot)):
                    self.assertIsInstance(right, ast.Constant, where)

    def test_comprehensions(self):
        for where, node in nodes(ast.ListComp):
            self.assertEqual(len(node.generators), 1, where)
            self.assertLessEqual(len(node.generators[0].ifs), 1, where)

    def test_names(self):
        two_underscores = {"__init__", "__eq__", "__repr__", "__str__", "__len__"}
        for where, node in named_nodes():
            for name in bound_names(node):
                self.assertNotIn(name, UNUSED_NAMES, where)
                if name not in two_underscores:
                    self.assertRegex(name, r"\A[A-Za-z][A-Za-z0-9_]*\Z", where)
                if not isinstance(node, ast.Attribute):
                    self.assertNotIn(name, BUILT_IN, where)

    def test_parameters_and_locals_are_not_called_like_an_import_or_a_class(self):
        for name, tree in trees():
            tops = {bound for top in tree.body if isinstance(top, (ast.ImportFrom, ast.ClassDef))
                    for bound in bound_names(top)}
            for function in [node for node in ast.walk(tree) if isinstance(node, (ast.FunctionDef, ast.Lambda))]:
                for node in ast.walk(function):
                    if isinstance(node, (ast.arg, ast.Name)):
                        self.assertEqual(tops & set(bound_names(node)), set(), name)

    def test_each_name_is_known(self):
        for name, tree in trees():
            bound = {word for node in ast.walk(tree) for word in bound_names(node)}
            for node in ast.walk(tree):
                if isinstance(node, ast.ExceptHandler) and node.name:
                    bound.add(node.name)
            for node in ast.walk(tree):
                if isinstance(node, ast.Name):
                    self.assertIn(node.id, bound | BUILT_IN, name)

    def test_methods_are_known(self):
        own = {node.name for where, node in nodes(ast.FunctionDef)}
        for where, node in nodes(ast.Call):
            if isinstance(node.func, ast.Attribute):
                self.assertIn(node.func.attr, METHODS | own, where)

    def test_sets_are_not_kept(self):
        for where, node in nodes(ast.Assign):
            self.assertNotIsInstance(node.value, ast.Set, where)
            if isinstance(node.value, ast.Call):
                self.assertNotIn(getattr(node.value.func, "id", ""), ("set", "frozenset"), where)


class Interface(unittest.TestCase):
    def test_answers_stands_in_its_file_alone(self):
        tops = [(name, node) for name, tree in trees() for node in tree.body
                if isinstance(node, (ast.FunctionDef, ast.ClassDef)) and node.name == "answers"]
        self.assertEqual([name for name, node in tops], ["offers.py"])
        arguments = tops[0][1].args
        self.assertEqual([one.arg for one in arguments.args], ["calls"])
        self.assertEqual(arguments.defaults, [])


if __name__ == "__main__":
    unittest.main()
