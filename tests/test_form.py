"""The part of Python that the package keeps to, as far as it can be seen in its files."""

import ast
import builtins
import pathlib
import re
import unittest

PACKAGE = pathlib.Path(__file__).resolve().parent.parent / "wideunit"

STATEMENTS = (
    ast.Module, ast.FunctionDef, ast.ClassDef, ast.ImportFrom, ast.Assign, ast.AugAssign, ast.If, ast.While, ast.For,
    ast.Return, ast.Break, ast.Continue, ast.Pass, ast.Raise, ast.Try, ast.ExceptHandler, ast.Expr)
EXPRESSIONS = (
    ast.Name, ast.Constant, ast.List, ast.Tuple, ast.Dict, ast.BinOp, ast.UnaryOp, ast.BoolOp, ast.Compare, ast.IfExp,
    ast.Call, ast.Attribute, ast.Subscript, ast.Slice, ast.ListComp, ast.comprehension, ast.JoinedStr,
    ast.FormattedValue, ast.Lambda, ast.keyword, ast.arguments, ast.arg, ast.alias, ast.expr_context, ast.operator,
    ast.unaryop, ast.boolop, ast.cmpop)
NOT_ALLOWED = (ast.Div, ast.MatMult, ast.Starred)
OWN_NAMES = set(
    "len range enumerate zip min max sum abs sorted reversed int str bool list tuple dict set frozenset isinstance ord "
    "repr any all divmod Exception ValueError TypeError KeyError IndexError LookupError ZeroDivisionError "
    "ArithmeticError OverflowError RuntimeError NotImplementedError AttributeError StopIteration".split())
METHODS = set(
    "append clear copy count endswith extend find get index insert isalnum isalpha isdigit islower isspace isupper "
    "items join keys ljust lower lstrip partition pop remove replace reverse rfind rjust rpartition rsplit rstrip "
    "setdefault split splitlines startswith strip update upper values zfill bit_length".split())
WORDS = (
    "type typing typing_extensions enum Enum IntEnum StrEnum Flag IntFlag Generic Protocol ABC ABCMeta namedtuple "
    "NamedTuple TypedDict TYPE_CHECKING abstractmethod").split()


def trees():
    for path in sorted(PACKAGE.rglob("*.py")):
        yield path, ast.parse(path.read_text())


class Files(unittest.TestCase):
    def test_names(self):
        for path in PACKAGE.rglob("*"):
            if "__pycache__" in path.parts:
                continue
            self.assertRegex(path.name, r"^(__init__|__main__|[a-z][a-z0-9_]*)(\.py)?$")
            self.assertFalse(hasattr(builtins, path.stem) and not path.stem.startswith("__"), path)

    def test_signs_and_sizes(self):
        for path in PACKAGE.rglob("*.py"):
            text = path.read_text(encoding="utf-8")
            self.assertRegex(text, r"\A[ -~\n]*\Z", path)
            lines = text.split("\n")
            self.assertLessEqual(len(lines), 400, path)
            self.assertLessEqual(max(map(len, lines)), 120, path)

    def test_words_that_stand_nowhere(self):
        for path in PACKAGE.rglob("*.py"):
            found = set(re.findall(r"\w+", path.read_text())) & set(WORDS)
            self.assertEqual(found, set(), path)

    def test_functions_are_short(self):
        for path, tree in trees():
            for node in ast.walk(tree):
                if isinstance(node, ast.FunctionDef):
                    self.assertLessEqual(node.end_lineno - node.lineno + 1, 40, (path, node.name))


class Language(unittest.TestCase):
    def test_statements_and_expressions(self):
        for path, tree in trees():
            for node in ast.walk(tree):
                place = path, getattr(node, "lineno", 0), node
                self.assertIsInstance(node, STATEMENTS + EXPRESSIONS, place)
                self.assertNotIsInstance(node, NOT_ALLOWED, place)
                if isinstance(node, ast.Constant):
                    self.assertIn(type(node.value), (int, str, bool, type(None)), place)
                if isinstance(node, ast.Assign):
                    self.assertEqual(len(node.targets), 1, place)
                if isinstance(node, (ast.For, ast.While)):
                    self.assertEqual(node.orelse, [], place)
                if isinstance(node, ast.FunctionDef):
                    self.assertEqual(node.decorator_list, [], place)
                    self.assertIsNone(node.args.vararg or node.args.kwarg or node.returns, place)
                if isinstance(node, ast.Compare):
                    self.assert_is_beside_none(node, place)
                if isinstance(node, ast.BinOp) and isinstance(node.op, ast.Pow):
                    self.assertIsInstance(node.right, ast.Constant, place)

    def assert_is_beside_none(self, node, place):
        for op, right in zip(node.ops, node.comparators, strict=True):
            if isinstance(op, (ast.Is, ast.IsNot)):
                self.assertIsInstance(right, ast.Constant, place)

    def test_the_top_of_a_file(self):
        for path, tree in trees():
            bound = []
            for node in tree.body:
                if isinstance(node, ast.Assign):
                    bound.append(node.targets[0].id)
                    self.assertNotIsInstance(node.value, (ast.Call, ast.ListComp, ast.Name, ast.BinOp), path)
                elif isinstance(node, ast.Expr):
                    self.assertIsInstance(node.value, ast.Constant, path)
                elif isinstance(node, ast.ImportFrom):
                    bound += [name.asname or name.name for name in node.names]
                else:
                    self.assertIsInstance(node, (ast.FunctionDef, ast.ClassDef), path)
                    bound.append(node.name)
            self.assertEqual(len(bound), len(set(bound)), path)

    def test_names(self):
        for path, tree in trees():
            top = {node.id for node in ast.walk(tree) if isinstance(node, ast.Name)}
            own = {name for name in top if hasattr(builtins, name)}
            self.assertLessEqual(own, OWN_NAMES, path)
            for node in ast.walk(tree):
                if isinstance(node, ast.Name) and isinstance(node.ctx, ast.Store) or isinstance(node, ast.arg):
                    name = node.id if isinstance(node, ast.Name) else node.arg
                    self.assertFalse(hasattr(builtins, name), (path, name))
                    self.assertFalse(name.startswith("_"), (path, name))

    def test_locals_are_not_called_like_imports(self):
        for path, tree in trees():
            taken = {alias.name for node in tree.body if isinstance(node, ast.ImportFrom) for alias in node.names}
            taken |= {node.name for node in tree.body if isinstance(node, ast.ClassDef)}
            for function in ast.walk(tree):
                if isinstance(function, ast.FunctionDef):
                    names = {node.arg for node in ast.walk(function) if isinstance(node, ast.arg)}
                    names |= {node.id for node in ast.walk(function)
                              if isinstance(node, ast.Name) and isinstance(node.ctx, ast.Store)}
                    self.assertEqual(names & taken, set(), (path, function.name))

    def test_methods_of_pythons_own_values(self):
        own = {node.name for path, tree in trees() for node in ast.walk(tree) if isinstance(node, ast.FunctionDef)}
        for path, tree in trees():
            for node in ast.walk(tree):
                if isinstance(node, ast.Call) and isinstance(node.func, ast.Attribute):
                    self.assertIn(node.func.attr, METHODS | own, (path, node.lineno))


class Imports(unittest.TestCase):
    def test_from_the_file_that_defines_the_name(self):
        defined = {}
        for path, tree in trees():
            module = ".".join(("wideunit",) + path.relative_to(PACKAGE).with_suffix("").parts)
            defined[module] = {node.name for node in tree.body if isinstance(node, (ast.FunctionDef, ast.ClassDef))}
            defined[module] |= {node.targets[0].id for node in tree.body if isinstance(node, ast.Assign)}
        for path, tree in trees():
            for node in tree.body:
                if isinstance(node, ast.ImportFrom) and node.module != "__future__":
                    for alias in node.names:
                        self.assertIn(alias.name, defined[node.module], path)
                        self.assertIsNone(alias.asname, path)

    def test_no_two_files_draw_from_one_another(self):
        drawn = {}
        for path, tree in trees():
            module = ".".join(("wideunit",) + path.relative_to(PACKAGE).with_suffix("").parts)
            drawn[module] = {node.module for node in tree.body if isinstance(node, ast.ImportFrom)}
        self.assertEqual(drawn["wideunit.__init__"], set())
        while drawn:
            free = [module for module in drawn if not drawn[module] & set(drawn)]
            self.assertTrue(free, drawn)
            for module in free:
                del drawn[module]

    def test_every_import_is_used(self):
        for path, tree in trees():
            used = {node.id for node in ast.walk(tree) if isinstance(node, ast.Name)}
            for node in tree.body:
                if isinstance(node, ast.ImportFrom):
                    self.assertLessEqual({alias.name for alias in node.names}, used, path)


if __name__ == "__main__":
    unittest.main()
