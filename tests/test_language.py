"""The package keeps to the subset of the language: as far as a look at the code can tell."""

import ast
import builtins
import io
import pathlib
import re
import tokenize
import unittest

PACKAGE = pathlib.Path(__file__).resolve().parent.parent / "opencells"

BUILTINS = set("""
len range enumerate zip min max sum abs sorted reversed int str bool bytes list tuple dict set frozenset isinstance ord
repr any all divmod Exception ValueError TypeError KeyError IndexError LookupError ZeroDivisionError ArithmeticError
OverflowError RuntimeError NotImplementedError AttributeError StopIteration
""".split())

METHODS = set("""
append clear copy count endswith extend find get index insert isalnum isalpha isdigit islower isspace isupper items join
keys ljust lower lstrip partition pop remove replace reverse rfind rjust rpartition rsplit rstrip setdefault split
splitlines startswith strip update upper values zfill bit_length add discard sort
""".split())

NODES = (
    ast.Module, ast.Expr, ast.ImportFrom, ast.alias, ast.FunctionDef, ast.ClassDef, ast.arguments, ast.arg, ast.Return,
    ast.Assign, ast.AugAssign, ast.Delete, ast.For, ast.While, ast.If, ast.Break, ast.Continue, ast.Pass, ast.Raise,
    ast.Assert, ast.Try, ast.ExceptHandler, ast.BoolOp, ast.BinOp, ast.UnaryOp, ast.IfExp, ast.Lambda, ast.Dict,
    ast.Set, ast.ListComp, ast.SetComp, ast.DictComp, ast.comprehension, ast.Compare, ast.Call, ast.keyword,
    ast.JoinedStr, ast.FormattedValue, ast.Constant, ast.Attribute, ast.Subscript, ast.Slice, ast.Name, ast.List,
    ast.Tuple, ast.Starred, ast.expr_context, ast.boolop, ast.operator, ast.unaryop, ast.cmpop,
)

BARRED_NAMES = set("""
register mro elements open input version_info with_traceback add_note attrgetter breakpoint builtins compile copyright
credits delattr dir eval exec exit gc getattr globals hasattr help id importlib license locals methodcaller os quit
setattr super type vars sys chr print
""".split())

BARRED_WORDS = re.compile(
    r"\b(type|typing|typing_extensions|enum|Enum|IntEnum|StrEnum|Flag|IntFlag|Generic|Protocol|ABC|ABCMeta|namedtuple"
    r"|NamedTuple|TypedDict|TYPE_CHECKING|abstractmethod)\b|dataclass|overload|contextmanager")


def files():
    """The package's files: their names, texts and trees."""
    found = []
    for path in sorted(PACKAGE.glob("*.py")):
        text = path.read_text()
        found.append((path.name, text, ast.parse(text)))
    return found


def bound_names(tree):
    """All names that are given to something in a file, but by imports."""
    for node in ast.walk(tree):
        if isinstance(node, ast.Name) and isinstance(node.ctx, (ast.Store, ast.Del)):
            yield node.id
        elif isinstance(node, ast.arg):
            yield node.arg
        elif isinstance(node, (ast.FunctionDef, ast.ClassDef, ast.ExceptHandler)) and node.name is not None:
            yield node.name


class LanguageTest(unittest.TestCase):

    def test_files_and_characters(self):
        for path in PACKAGE.iterdir():
            if path.name != "__pycache__":
                self.assertRegex(path.name, r"^[a-z0-9_]+\.py$")
        for name, text, tree in files():
            self.assertRegex(text, r"\A[ -~\n]*\Z", name)
            self.assertIsNone(BARRED_WORDS.search(text), name)

    def test_sizes(self):
        for name, text, tree in files():
            lines = text.splitlines()
            self.assertLessEqual(len(lines), 400, name)
            self.assertLessEqual(max(len(line) for line in lines), 120, name)
            for node in ast.walk(tree):
                if isinstance(node, ast.FunctionDef):
                    self.assertLessEqual(node.end_lineno - node.lineno + 1, 40, (name, node.name))

    def test_statements_and_expressions(self):
        for name, text, tree in files():
            for node in ast.walk(tree):
                where = (name, getattr(node, "lineno", 0))
                self.assertIsInstance(node, NODES, where)
                if isinstance(node, (ast.FunctionDef, ast.ClassDef)):
                    self.assertEqual(node.decorator_list, [], where)
                if isinstance(node, (ast.For, ast.While)):
                    self.assertEqual(node.orelse, [], where)
                if isinstance(node, (ast.Div, ast.MatMult)):
                    self.fail(where)
                if isinstance(node, ast.Constant):
                    self.assertNotIsInstance(node.value, (float, complex), where)
                    self.assertNotIn("%", node.value if isinstance(node.value, str) else "", where)
                if isinstance(node, ast.BinOp) and isinstance(node.op, ast.Pow):
                    self.assertIsInstance(node.right, ast.Constant, where)
                if isinstance(node, ast.Compare):
                    for operator, right in zip(node.ops, node.comparators):
                        if isinstance(operator, (ast.Is, ast.IsNot)):
                            self.assertIsInstance(right, ast.Constant, where)
                if isinstance(node, ast.arguments):
                    self.assertEqual((node.vararg, node.kwarg, node.posonlyargs), (None, None, []), where)
                if isinstance(node, ast.Call):
                    self.assertFalse([part for part in node.args if isinstance(part, ast.Starred)], where)

    def test_module_level(self):
        for name, text, tree in files():
            bound = []
            for node in tree.body:
                self.assertIsInstance(node, (ast.Expr, ast.ImportFrom, ast.FunctionDef, ast.ClassDef, ast.Assign), name)
                if isinstance(node, ast.Expr):
                    self.assertIsInstance(node.value.value, str, name)
                elif isinstance(node, ast.ImportFrom):
                    bound += [alias.name for alias in node.names]
                elif isinstance(node, ast.Assign):
                    self.assert_plain(node.value, bound)
                    bound += [target.id for target in node.targets]
                else:
                    bound.append(node.name)
            self.assertEqual(len(set(bound)), len(bound), name)

    def assert_plain(self, value, bound):
        """A value at module level is written out; a table may have functions defined above it."""
        if isinstance(value, ast.Dict) and all(isinstance(part, ast.Name) for part in value.values):
            self.assertTrue({part.id for part in value.values} <= set(bound))
            self.assertEqual([type(ast.literal_eval(key)) for key in value.keys], [str] * len(value.keys))
        else:
            ast.literal_eval(value)

    def test_tables_of_functions_are_called_by_a_name(self):
        for name, text, tree in files():
            for node in ast.walk(tree):
                if isinstance(node, ast.Call):
                    self.assertIsInstance(node.func, (ast.Name, ast.Attribute), (name, node.lineno))

    def test_imports(self):
        homes = {f"opencells.{name[:-3]}": tree for name, text, tree in files()}
        leads = {}
        for home, tree in homes.items():
            leads[home] = []
            for node in ast.walk(tree):
                if isinstance(node, ast.ImportFrom):
                    self.assertEqual(node.level, 0)
                    self.assertIn(node.module, homes)
                    defined = {top.name for top in homes[node.module].body
                               if isinstance(top, (ast.FunctionDef, ast.ClassDef))}
                    defined |= {target.id for top in homes[node.module].body if isinstance(top, ast.Assign)
                                for target in top.targets}
                    for alias in node.names:
                        self.assertIn(alias.name, defined, home)
                    leads[home].append(node.module)
        while leads:
            ends = [home for home, behind in leads.items() if not any(module in leads for module in behind)]
            self.assertTrue(ends, "imports lead round")
            leads = {home: behind for home, behind in leads.items() if home not in ends}

    def test_names(self):
        for name, text, tree in files():
            imported = {alias.name for node in ast.walk(tree) if isinstance(node, ast.ImportFrom)
                        for alias in node.names}
            for bound in bound_names(tree):
                if bound in ("__init__", "__eq__", "__repr__", "__str__", "__len__"):
                    continue
                self.assertRegex(bound, r"^[A-Za-z][A-Za-z0-9_]*$", name)
                self.assertNotIn(bound, BARRED_NAMES, name)
                self.assertNotIn(bound, dir(builtins), name)
                self.assertNotIn(bound, imported, name)

    def test_builtins_and_methods(self):
        own = {node.name for name, text, tree in files() for node in ast.walk(tree) if isinstance(node, ast.FunctionDef)}
        assigned = {node.attr for name, text, tree in files() for node in ast.walk(tree)
                    if isinstance(node, ast.Attribute) and isinstance(node.ctx, ast.Store)}
        for name, text, tree in files():
            for node in ast.walk(tree):
                if isinstance(node, ast.Name) and node.id in dir(builtins):
                    self.assertIn(node.id, BUILTINS, (name, node.lineno))
                if isinstance(node, ast.Attribute):
                    self.assertIn(node.attr, METHODS | own | assigned, (name, node.lineno))

    def test_no_name_is_a_method_here_and_an_attribute_there(self):
        methods, attributes = set(), set()
        for name, text, tree in files():
            for node in ast.walk(tree):
                if isinstance(node, ast.ClassDef):
                    methods |= {part.name for part in node.body if isinstance(part, ast.FunctionDef)}
                elif isinstance(node, ast.Attribute) and isinstance(node.ctx, ast.Store):
                    attributes.add(node.attr)
        self.assertEqual(methods & attributes, set())

    def test_loops_do_not_change_what_they_go_through(self):
        for name, text, tree in files():
            for loop in ast.walk(tree):
                if isinstance(loop, ast.For):
                    through = {node.id for node in ast.walk(loop.iter) if isinstance(node, ast.Name)}
                    for node in ast.walk(ast.Module(loop.body, [])):
                        changed = None
                        if isinstance(node, (ast.Subscript, ast.Attribute)) and isinstance(node.ctx, ast.Store):
                            changed = node.value
                        elif isinstance(node, ast.Call) and isinstance(node.func, ast.Attribute):
                            changed = node.func.value
                        elif isinstance(node, ast.AugAssign):
                            changed = node.target
                        if isinstance(changed, ast.Name):
                            self.assertNotIn(changed.id, through, (name, loop.lineno))

    def test_errors(self):
        for name, text, tree in files():
            for node in ast.walk(tree):
                if isinstance(node, ast.Raise) and node.exc is not None:
                    self.assertIsInstance(node.exc, ast.Call, (name, node.lineno))
                    self.assertIsInstance(node.exc.func, ast.Name, (name, node.lineno))
                if isinstance(node, ast.ExceptHandler):
                    self.assertIsNotNone(node.type, (name, node.lineno))

    def test_no_tabs_and_no_odd_escapes(self):
        for name, text, tree in files():
            for token in tokenize.generate_tokens(io.StringIO(text).readline):
                if token.type == tokenize.STRING:
                    self.assertNotRegex(token.string.replace("\\\\", ""), r"\\[^nt'\"\n]", name)
