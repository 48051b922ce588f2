"""Those rules of the program's part of Python that can be counted: the rest is for the reader."""

import ast
import builtins
import pathlib
import re
import unittest

PACKAGE = pathlib.Path(__file__).resolve().parent.parent / "ripestone"
OWN_NAMES = """len range enumerate zip min max sum abs sorted reversed int str bool list tuple dict set frozenset
    isinstance ord repr any all divmod Exception ValueError TypeError KeyError IndexError LookupError
    ZeroDivisionError ArithmeticError OverflowError RuntimeError NotImplementedError AttributeError StopIteration
    """.split()
BANNED_WORDS = """type typing typing_extensions enum Enum IntEnum StrEnum Flag IntFlag Generic Protocol ABC ABCMeta
    namedtuple NamedTuple TypedDict TYPE_CHECKING abstractmethod""".split()
BANNED_PIECES = ("dataclass", "overload", "contextmanager")
DOUBLE_UNDERSCORES = ("__init__", "__eq__", "__repr__", "__str__", "__len__", "__all__", "__version__")
BANNED_NODES = (
    ast.With, ast.Match, ast.Delete, ast.Global, ast.Nonlocal, ast.Assert, ast.Yield, ast.YieldFrom, ast.Await,
    ast.AsyncFunctionDef, ast.AsyncFor, ast.AsyncWith, ast.SetComp, ast.DictComp, ast.GeneratorExp, ast.NamedExpr,
    ast.Starred, ast.Div, ast.Import, ast.AnnAssign,
)
PLAIN_METHODS = """append clear copy count endswith extend find get index insert isalnum isalpha isdigit islower
    isspace isupper items join keys ljust lower lstrip partition pop remove replace reverse rfind rjust rpartition
    rsplit rstrip setdefault split splitlines startswith strip update upper values zfill bit_length""".split()


def sources():
    return sorted(PACKAGE.rglob("*.py"))


def trees():
    return [(path, ast.parse(path.read_text())) for path in sources()]


def nodes():
    for path, tree in trees():
        for node in ast.walk(tree):
            yield path.name, node


def drawn_from(tree):
    return [node.module for node in ast.walk(tree) if isinstance(node, ast.ImportFrom)]


def local_names(tree):
    for node in ast.walk(tree):
        if isinstance(node, ast.arg):
            yield node.arg
    for function in ast.walk(tree):
        if isinstance(function, (ast.FunctionDef, ast.Lambda, ast.ListComp)):
            for node in ast.walk(function):
                if isinstance(node, ast.Name) and isinstance(node.ctx, ast.Store):
                    yield node.id


def is_plain(value, functions):
    """A written value, or a tuple, list or dict of such and of functions above; no list or dict within another one."""
    if isinstance(value, ast.Dict):
        return all(is_plain_within(one, functions) for one in value.keys + value.values)
    if isinstance(value, ast.List):
        return all(is_plain_within(one, functions) for one in value.elts)
    return is_plain_within(value, [])


def is_plain_within(value, functions):
    if isinstance(value, ast.UnaryOp):
        return isinstance(value.op, ast.USub) and isinstance(value.operand, ast.Constant)
    if isinstance(value, ast.Tuple):
        return all(is_plain_within(one, functions) for one in value.elts)
    return isinstance(value, ast.Constant) or isinstance(value, ast.Name) and value.id in functions


class LanguageTest(unittest.TestCase):
    def test_only_plain_files_lie_in_the_package(self):
        for path in PACKAGE.rglob("*"):
            if "__pycache__" not in path.parts:
                self.assertRegex(path.name, r"^[a-z0-9_]+\.py$")
        self.assertIn(PACKAGE / "__init__.py", sources())

    def test_signs_and_sizes(self):
        for path in sources():
            text = path.read_text()
            lines = text.split("\n")
            self.assertRegex(text, r"\A[ -~\n]*\Z", path.name)
            self.assertLessEqual(len(lines), 401, path.name)
            self.assertLessEqual(max(len(line) for line in lines), 120, path.name)

    def test_functions_are_short(self):
        for name, node in nodes():
            if isinstance(node, ast.FunctionDef):
                self.assertLessEqual(node.end_lineno - node.lineno + 1, 40, (name, node.name))

    def test_words_that_stand_nowhere(self):
        for path in sources():
            text = path.read_text()
            words = re.findall(r"\w+", text)
            self.assertEqual([word for word in words if word in BANNED_WORDS], [], path.name)
            self.assertEqual([piece for piece in BANNED_PIECES if piece in text], [], path.name)

    def test_statements_and_expressions(self):
        for name, node in nodes():
            self.assertNotIsInstance(node, BANNED_NODES, (name, getattr(node, "lineno", None)))
            if isinstance(node, (ast.For, ast.While)):
                self.assertEqual(node.orelse, [], name)
            if isinstance(node, ast.Assign):
                self.assertEqual(len(node.targets), 1, name)
            if isinstance(node, (ast.FunctionDef, ast.ClassDef)):
                self.assertEqual(node.decorator_list, [], name)
            if isinstance(node, ast.Constant):
                self.assertIn(type(node.value), (int, str, bool, type(None)), name)

    def test_imports_are_of_the_package_alone(self):
        for name, node in nodes():
            if isinstance(node, ast.ImportFrom):
                self.assertEqual(node.level, 0, name)
                self.assertRegex(node.module, r"^ripestone\.\w+$")
                self.assertNotIn("*", [alias.name for alias in node.names])

    def test_names(self):
        for name, node in nodes():
            if isinstance(node, ast.Name) and hasattr(builtins, node.id):
                self.assertIn(node.id, OWN_NAMES, name)
                self.assertIsInstance(node.ctx, ast.Load, (name, node.id))
            if isinstance(node, ast.arg):
                self.assertFalse(hasattr(builtins, node.arg), (name, node.arg))
            for bound in (getattr(node, "id", None), getattr(node, "arg", None), getattr(node, "attr", None)):
                if bound is not None and bound not in DOUBLE_UNDERSCORES:
                    self.assertFalse(bound.startswith("_"), (name, bound))

    def test_no_local_is_called_like_a_class_or_an_import(self):
        for path, tree in trees():
            taken = {node.name for node in tree.body if isinstance(node, ast.ClassDef)}
            for node in tree.body:
                if isinstance(node, ast.ImportFrom):
                    taken |= {alias.asname or alias.name for alias in node.names}
            self.assertEqual(sorted(taken & set(local_names(tree))), [], path.name)

    def test_names_are_bound_once_at_a_files_top(self):
        for path, tree in trees():
            bound = []
            for node in tree.body:
                if isinstance(node, (ast.FunctionDef, ast.ClassDef)):
                    bound.append(node.name)
                if isinstance(node, ast.Assign):
                    bound.append(node.targets[0].id)
                if isinstance(node, ast.ImportFrom):
                    bound.extend(alias.asname or alias.name for alias in node.names)
            self.assertEqual(len(bound), len(set(bound)), path.name)

    def test_values_at_a_files_top_are_plain(self):
        for path, tree in trees():
            for place, node in enumerate(tree.body):
                self.assertIsInstance(node, (ast.Expr, ast.ImportFrom, ast.FunctionDef, ast.ClassDef, ast.Assign))
                if isinstance(node, ast.Assign):
                    above = [one.name for one in tree.body[:place] if isinstance(one, ast.FunctionDef)]
                    self.assertTrue(is_plain(node.value, above), (path.name, node.targets[0].id))
                if isinstance(node, ast.Expr):
                    self.assertIsInstance(node.value, ast.Constant, path.name)

    def test_errors_that_are_taken(self):
        own = {node.name for name, node in nodes() if isinstance(node, ast.ClassDef) and name == "errors.py"}
        for name, node in nodes():
            if isinstance(node, ast.ExceptHandler):
                self.assertIsInstance(node.type, ast.Name, name)
                self.assertIn(node.type.id, own | {"KeyError", "ZeroDivisionError", "StopIteration"}, name)
            if isinstance(node, ast.Try):
                self.assertEqual(node.finalbody, [], name)

    def test_imports_name_the_file_that_defines(self):
        defined = {}
        for path, tree in trees():
            names = [node.name for node in tree.body if isinstance(node, (ast.FunctionDef, ast.ClassDef))]
            names += [node.targets[0].id for node in tree.body if isinstance(node, ast.Assign)]
            defined["ripestone." + path.stem] = names
        for name, node in nodes():
            if isinstance(node, ast.ImportFrom):
                for alias in node.names:
                    self.assertIn(alias.name, defined[node.module], name)

    def test_no_two_files_draw_from_one_another(self):
        left = {"ripestone." + path.stem: drawn_from(tree) for path, tree in trees()}
        while left:
            ended = [name for name in left if not any(other in left for other in left[name])]
            self.assertTrue(ended, left)
            left = {name: left[name] for name in left if name not in ended}

    def test_no_name_is_a_method_and_a_value(self):
        methods = set()
        stored = set()
        for name, node in nodes():
            if isinstance(node, ast.ClassDef):
                own = [one.name for one in node.body if isinstance(one, ast.FunctionDef)]
                self.assertEqual(len(own), len(set(own)), (name, node.name))
                methods |= set(own)
            if isinstance(node, ast.Attribute) and isinstance(node.ctx, ast.Store):
                stored.add(node.attr)
        self.assertEqual(sorted(methods & stored), [])

    def test_is_stands_beside_none_true_and_false_alone(self):
        for name, node in nodes():
            if isinstance(node, ast.Compare):
                for sign, other in zip(node.ops, node.comparators):
                    if isinstance(sign, (ast.Is, ast.IsNot)):
                        self.assertIsInstance(other, ast.Constant, name)
                        self.assertIn(other.value, (None, True, False), name)

    def test_no_rest_sign_within_a_text(self):
        for name, node in nodes():
            if isinstance(node, ast.Constant) and isinstance(node.value, str):
                self.assertNotIn("%", node.value, name)

    def test_comprehensions_have_one_for_and_at_most_one_if(self):
        for name, node in nodes():
            if isinstance(node, ast.ListComp):
                self.assertEqual(len(node.generators), 1, name)
                self.assertLessEqual(len(node.generators[0].ifs), 1, name)

    def test_methods_of_python_are_those_that_are_listed(self):
        known = {method for kind in (str, int, list, tuple, dict, set, bytes) for method in dir(kind)}
        for name, node in nodes():
            if isinstance(node, ast.Attribute) and node.attr in known:
                self.assertIn(node.attr, PLAIN_METHODS + ["__init__", "add", "discard", "title"], (name, node.attr))


if __name__ == "__main__":
    unittest.main()
