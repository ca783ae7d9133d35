"""The package's files keep to the part of Python that the project allows, as far as a syntax tree shows it."""

import ast
import builtins
import pathlib
import re
import unittest

PACKAGE = pathlib.Path(__file__).resolve().parent.parent / "proofpaths"

STATEMENTS = (ast.Module, ast.FunctionDef, ast.ClassDef, ast.Assign, ast.AugAssign, ast.If, ast.While, ast.For,
              ast.Return, ast.Break, ast.Continue, ast.Pass, ast.Raise, ast.Try, ast.ExceptHandler, ast.Expr,
              ast.ImportFrom, ast.alias)
EXPRESSIONS = (ast.Constant, ast.Name, ast.List, ast.Tuple, ast.Dict, ast.BinOp, ast.UnaryOp, ast.BoolOp, ast.Compare,
               ast.IfExp, ast.Call, ast.Attribute, ast.Subscript, ast.Slice, ast.ListComp, ast.comprehension,
               ast.Lambda, ast.arguments, ast.arg, ast.keyword, ast.JoinedStr, ast.FormattedValue,
               ast.expr_context, ast.operator, ast.unaryop, ast.boolop, ast.cmpop)
OPERATORS_OUT = (ast.Div, ast.MatMult)
PYTHONS_NAMES = set("""len range enumerate zip min max sum abs sorted reversed int str bool list tuple dict set frozenset
isinstance ord repr any all divmod Exception ValueError TypeError KeyError IndexError LookupError ZeroDivisionError
ArithmeticError OverflowError RuntimeError NotImplementedError AttributeError StopIteration""".split())
PYTHONS_METHODS = set("""append clear copy count endswith extend find get index insert isalnum isalpha isdigit islower
isspace isupper items join keys ljust lower lstrip partition pop remove replace reverse rfind rjust rpartition rsplit
rstrip setdefault split splitlines startswith strip update upper values zfill bit_length""".split())
WORDS_OUT = re.compile(r"\b(type|typing|typing_extensions|enum|Enum|IntEnum|StrEnum|Flag|IntFlag|Generic|Protocol|ABC|"
                       r"ABCMeta|namedtuple|NamedTuple|TypedDict|TYPE_CHECKING|abstractmethod)\b|"
                       r"dataclass|overload|contextmanager")
WALKED = ("zip", "enumerate", "reversed", "range")
WALKERS = ("list", "tuple", "dict", "sorted", "sum", "any", "all", "enumerate", "zip", "min", "max")
NAMES_OUT = {"register", "mro", "elements", "open", "input", "version_info", "with_traceback", "add_note", "format",
             "format_map"}


def trees():
    return {path: ast.parse(path.read_text(encoding="utf-8")) for path in sorted(PACKAGE.rglob("*.py"))}


class Language(unittest.TestCase):
    def each_node(self, *kinds):
        for path, tree in trees().items():
            for node in ast.walk(tree):
                if isinstance(node, kinds):
                    yield "%s:%s" % (path.name, getattr(node, "lineno", "")), node

    def test_files(self):
        for path in PACKAGE.rglob("*"):
            if "__pycache__" not in path.parts:
                self.assertRegex(path.name, r"^[a-z_][a-z0-9_]*\.py$")
                self.assertNotIn(path.stem, dir(builtins))
        self.assertIn(PACKAGE / "__init__.py", trees())

    def test_rows(self):
        for path in trees():
            rows = path.read_text(encoding="utf-8").split("\n")
            self.assertLessEqual(len(rows), 400, path.name)
            for number, row in enumerate(rows, start=1):
                self.assertRegex(row, r"\A[ -~]{0,120}\Z", "%s:%d" % (path.name, number))
                self.assertIsNone(WORDS_OUT.search(row), "%s:%d" % (path.name, number))

    def test_only_allowed_syntax(self):
        for where, node in self.each_node(ast.AST):
            self.assertIsInstance(node, STATEMENTS + EXPRESSIONS, where)
            self.assertNotIsInstance(node, OPERATORS_OUT, where)
        for where, node in self.each_node(ast.Constant):
            self.assertIn(type(node.value), (int, str, bool, type(None)), where)
        for where, node in self.each_node(ast.Assign):
            self.assertEqual(len(node.targets), 1, where)
        for where, node in self.each_node(ast.For, ast.While):
            self.assertEqual(node.orelse, [], where)
        for where, node in self.each_node(ast.ListComp):
            self.assertEqual(len(node.generators), 1, where)
            self.assertLessEqual(len(node.generators[0].ifs), 1, where)

    def test_functions(self):
        for where, node in self.each_node(ast.FunctionDef):
            self.assertLessEqual(node.end_lineno - node.lineno + 1, 40, where)
            self.assertEqual(node.decorator_list, [], where)
            extras = (node.args.vararg, node.args.kwarg, node.returns)
            self.assertEqual(extras, (None, None, None), where)
            self.assertEqual(node.args.kwonlyargs + node.args.posonlyargs, [], where)
        for where, node in self.each_node(ast.ClassDef):
            self.assertEqual(node.decorator_list + node.keywords, [], where)
            self.assertLessEqual(len(node.bases), 1, where)

    def test_imports(self):
        for where, node in self.each_node(ast.ImportFrom):
            self.assertEqual(node.level, 0, where)
            self.assertTrue(node.module.startswith("proofpaths."), where)
            self.assertTrue((PACKAGE / (node.module.split(".")[1] + ".py")).is_file(), where)
            self.assertTrue(all(alias.asname is None and alias.name != "*" for alias in node.names), where)

    def test_the_top_of_a_file(self):
        kinds = (ast.Expr, ast.ImportFrom, ast.FunctionDef, ast.ClassDef, ast.Assign)
        for path, tree in trees().items():
            bound = []
            for node in tree.body:
                self.assertIsInstance(node, kinds, path.name)
                if isinstance(node, ast.Assign):
                    ast.literal_eval(node.value)
                    bound.append(node.targets[0].id)
                elif isinstance(node, ast.ImportFrom):
                    bound.extend(alias.name for alias in node.names)
                elif isinstance(node, (ast.FunctionDef, ast.ClassDef)):
                    bound.append(node.name)
            self.assertEqual(len(bound), len(set(bound)), path.name)

    def test_names(self):
        own = {node.name for where, node in self.each_node(ast.FunctionDef)}
        values = {node.attr for where, node in self.each_node(ast.Attribute) if isinstance(node.ctx, ast.Store)}
        self.assertEqual(own & values, set())
        for where, node in self.each_node(ast.Name):
            self.assertFalse(node.id.startswith("_"), where)
            if isinstance(node.ctx, ast.Load) and node.id in dir(builtins):
                self.assertIn(node.id, PYTHONS_NAMES, where)
            if isinstance(node.ctx, ast.Store):
                self.assertNotIn(node.id, dir(builtins), where)
        for where, node in self.each_node(ast.arg):
            self.assertNotIn(node.arg, dir(builtins), where)
        for where, node in self.each_node(ast.Attribute):
            self.assertNotIn(node.attr, NAMES_OUT, where)
            self.assertIn(node.attr, own | values | PYTHONS_METHODS, where)

    def test_no_name_of_the_file_is_given_to_a_local(self):
        for path, tree in trees().items():
            taken = {alias.name for node in tree.body if isinstance(node, ast.ImportFrom) for alias in node.names}
            taken |= {node.name for node in tree.body if isinstance(node, (ast.ClassDef, ast.FunctionDef))}
            for node in ast.walk(tree):
                if isinstance(node, ast.arg):
                    self.assertNotIn(node.arg, taken, path.name)
                elif isinstance(node, ast.Name) and isinstance(node.ctx, ast.Store):
                    self.assertNotIn(node.id, taken, path.name)

    def test_is_stands_beside_none_true_and_false(self):
        for where, node in self.each_node(ast.Compare):
            for operator, right in zip(node.ops, node.comparators):
                if isinstance(operator, (ast.Is, ast.IsNot)):
                    self.assertTrue(isinstance(right, ast.Constant) and right.value in (None, True, False), where)

    def test_walked_at_once(self):
        for where, node, parent in trees_with_parents():
            if called_name(node) in WALKED or called_method(node) in ("items", "keys", "values"):
                on_the_spot = isinstance(parent, (ast.For, ast.comprehension)) and parent.iter is node
                within = called_name(parent) in WALKERS and parent.args[0] is node
                self.assertTrue(on_the_spot or within, where)

    def test_sets_are_not_kept(self):
        for where, node, parent in trees_with_parents():
            self.assertNotIsInstance(node, ast.Set, where)
            if called_name(node) in ("set", "frozenset"):
                self.assertTrue(called_name(parent) in ("sorted", "len") or isinstance(parent, ast.Compare), where)

    def test_numbers_and_texts(self):
        for where, node in self.each_node(ast.Constant):
            if isinstance(node.value, str):
                self.assertNotIn("%", node.value, where)
        for where, node in self.each_node(ast.BinOp):
            if isinstance(node.op, ast.Pow):
                self.assertIsInstance(node.right, ast.Constant, where)


def trees_with_parents():
    found = []
    for path, tree in trees().items():
        for parent in ast.walk(tree):
            for node in ast.iter_child_nodes(parent):
                found.append(("%s:%s" % (path.name, getattr(node, "lineno", "")), node, parent))
    return found


def called_name(node):
    """The name that is called there, if the node is such a call."""
    return node.func.id if isinstance(node, ast.Call) and isinstance(node.func, ast.Name) else None


def called_method(node):
    return node.func.attr if isinstance(node, ast.Call) and isinstance(node.func, ast.Attribute) else None


if __name__ == "__main__":
    unittest.main()
