"""The rules that the package's own files keep to, as far as a program can see them."""

import ast
import builtins
import pathlib
import re
import unittest

PACKAGE = pathlib.Path(__file__).resolve().parent.parent / "filmcuts"

BUILT_IN = set("""len range enumerate zip min max sum abs sorted reversed int str bool list tuple dict set frozenset
isinstance ord repr any all divmod Exception ValueError TypeError KeyError IndexError LookupError ZeroDivisionError
ArithmeticError OverflowError RuntimeError NotImplementedError AttributeError StopIteration""".split())
METHODS = set("""append clear copy count endswith extend find get index insert isalnum isalpha isdigit islower isspace
isupper items join keys ljust lower lstrip partition pop remove replace reverse rfind rjust rpartition rsplit rstrip
setdefault split splitlines startswith strip update upper values zfill bit_length""".split())
OUT_OF_USE = set("""register mro elements open input version_info with_traceback add_note attrgetter breakpoint builtins
compile copyright credits delattr dir eval exec exit gc getattr globals hasattr help id importlib license locals
methodcaller os quit setattr super type vars sys print chr""".split())
WORDS = """type typing typing_extensions enum Enum IntEnum StrEnum Flag IntFlag Generic Protocol ABC ABCMeta namedtuple
NamedTuple TypedDict TYPE_CHECKING abstractmethod""".split()
DOUBLE = {"__init__", "__eq__", "__repr__", "__str__", "__len__"}
NODES = (
    ast.Module, ast.ImportFrom, ast.alias, ast.FunctionDef, ast.arguments, ast.arg, ast.ClassDef, ast.Lambda,
    ast.Assign, ast.AugAssign, ast.If, ast.While, ast.For, ast.Return, ast.Break, ast.Continue, ast.Pass, ast.Raise,
    ast.Try, ast.ExceptHandler, ast.Expr, ast.Constant, ast.List, ast.Tuple, ast.Dict, ast.BinOp, ast.UnaryOp,
    ast.BoolOp, ast.Compare, ast.IfExp, ast.Call, ast.keyword, ast.Attribute, ast.Subscript, ast.Slice, ast.ListComp,
    ast.comprehension, ast.JoinedStr, ast.FormattedValue, ast.Name, ast.expr_context, ast.operator, ast.unaryop,
    ast.boolop, ast.cmpop,
)
TOP = (ast.Expr, ast.ImportFrom, ast.FunctionDef, ast.ClassDef, ast.Assign)


def files():
    return sorted(path for path in PACKAGE.rglob("*") if "__pycache__" not in path.parts)


def trees():
    for path in files():
        if path.suffix == ".py":
            yield path.name, ast.parse(path.read_text(encoding="utf-8"))


def nodes(*kinds):
    for name, tree in trees():
        for node in ast.walk(tree):
            if isinstance(node, kinds):
                yield f"{name}:{getattr(node, 'lineno', 0)}", node


def is_plain(node, defined):
    if isinstance(node, ast.UnaryOp):
        return isinstance(node.op, ast.USub) and isinstance(node.operand, ast.Constant)
    if isinstance(node, (ast.List, ast.Tuple)):
        return all(is_plain(part, defined) for part in node.elts)
    if isinstance(node, ast.Dict):
        return all(is_plain(part, defined) for part in node.keys + node.values)
    return isinstance(node, ast.Constant) or (isinstance(node, ast.Name) and node.id in defined)


class Files(unittest.TestCase):
    def test_names(self):
        self.assertTrue((PACKAGE / "__init__.py").is_file())
        for path in files():
            self.assertRegex(path.name, r"^([a-z][a-z0-9_]*|__init__|__main__)\.py$")
            self.assertFalse(path.name.startswith("test"))
            self.assertNotIn(path.stem, dir(builtins))

    def test_signs_and_sizes(self):
        for path in files():
            lines = path.read_text(encoding="utf-8").split("\n")
            self.assertLessEqual(len(lines), 400, path)
            for number, line in enumerate(lines, 1):
                self.assertRegex(line, r"^[ -~]{0,120}$", f"{path.name}:{number}")

    def test_words_that_stand_nowhere(self):
        for path in files():
            text = path.read_text(encoding="utf-8")
            for word in WORDS:
                self.assertIsNone(re.search(rf"\b{word}\b", text), (path.name, word))
            for word in ("dataclass", "overload", "contextmanager"):
                self.assertNotIn(word, text)


class Forms(unittest.TestCase):
    def test_only_the_forms_allowed(self):
        for where, node in nodes(ast.AST):
            self.assertIsInstance(node, NODES, where)

    def test_top_of_each_file(self):
        for name, tree in trees():
            self.assertIsInstance(ast.get_docstring(tree), str, name)
            bound = []
            for node in tree.body:
                self.assertIsInstance(node, TOP, name)
                if isinstance(node, ast.Assign):
                    bound.append(node.targets[0].id)
                elif isinstance(node, (ast.FunctionDef, ast.ClassDef)):
                    bound.append(node.name)
                elif isinstance(node, ast.ImportFrom):
                    bound.extend(alias.name for alias in node.names)
            self.assertEqual(sorted(bound), sorted(set(bound)), name)

    def test_values_at_the_top_are_plain(self):
        for name, tree in trees():
            defined = {node.name for node in tree.body if isinstance(node, ast.FunctionDef)}
            for node in tree.body:
                if isinstance(node, ast.Assign):
                    self.assertTrue(is_plain(node.value, defined), f"{name}:{node.lineno}")

    def test_imports(self):
        defined = {name: {getattr(node, "name", None) or node.targets[0].id for node in tree.body
                          if isinstance(node, (ast.FunctionDef, ast.ClassDef, ast.Assign))}
                   for name, tree in trees()}
        drawn = {}
        for name, tree in trees():
            rows = [node for node in ast.walk(tree) if isinstance(node, ast.ImportFrom)]
            drawn[name] = []
            for node in rows:
                self.assertIn(node, tree.body)
                self.assertEqual(node.level, 0)
                package, _, module = node.module.partition(".")
                self.assertEqual(package, "filmcuts")
                drawn[name].append(module + ".py")
                for alias in node.names:
                    self.assertIn(alias.name, defined[module + ".py"])
                    self.assertIsNone(alias.asname)
        while drawn:
            free = [name for name in drawn if not any(other in drawn for other in drawn[name])]
            self.assertTrue(free, "files draw from one another in a ring")
            for name in free:
                drawn.pop(name)

    def test_functions(self):
        for where, node in nodes(ast.FunctionDef):
            self.assertLessEqual(node.end_lineno - node.lineno + 1, 40, where)
            self.assertEqual(node.decorator_list, [], where)
            given = node.args
            self.assertEqual([given.vararg, given.kwarg, given.kwonlyargs, given.posonlyargs], [None, None, [], []])
            self.assertIsNone(node.returns, where)
            self.assertTrue(all(arg.annotation is None for arg in given.args), where)

    def test_classes(self):
        methods, values = set(), set()
        for where, node in nodes(ast.ClassDef):
            self.assertEqual((node.decorator_list, node.keywords), ([], []), where)
            self.assertLessEqual(len(node.bases), 1, where)
            for part in node.body:
                self.assertIsInstance(part, (ast.FunctionDef, ast.Expr), where)
                if isinstance(part, ast.FunctionDef):
                    methods.add(part.name)
        for where, node in nodes(ast.Attribute):
            if isinstance(node.ctx, ast.Store):
                self.assertIsInstance(node.value, ast.Name, where)
                values.add(node.attr)
        self.assertEqual(methods & values, set())
        python = set().union(*(dir(kind) for kind in (str, int, list, dict, set, bytes))) - DOUBLE
        self.assertEqual((methods | values) & python, set())

    def test_statements(self):
        for where, node in nodes(ast.Assign):
            self.assertEqual(len(node.targets), 1, where)
            self.assertNotIsInstance(node.targets[0], (ast.Tuple, ast.List), where)
        for where, node in nodes(ast.For, ast.While):
            self.assertEqual(node.orelse, [], where)
        for where, node in nodes(ast.Expr):
            self.assertTrue(isinstance(node.value, ast.Call) or isinstance(node.value.value, str), where)

    def test_errors(self):
        own = {node.name for _, node in nodes(ast.ClassDef)}
        for where, node in nodes(ast.ExceptHandler):
            self.assertIsInstance(node.type, ast.Name, where)
            self.assertIn(node.type.id, own, where)
        for where, node in nodes(ast.Raise):
            self.assertIsInstance(node.exc, ast.Call, where)
            self.assertIn(node.exc.func.id, own, where)
        for where, node in nodes(ast.Try):
            self.assertEqual(node.finalbody, [], where)

    def test_expressions(self):
        for where, node in nodes(ast.BinOp, ast.AugAssign):
            self.assertNotIsInstance(node.op, (ast.Div, ast.MatMult, ast.Pow), where)
        for where, node in nodes(ast.Constant):
            self.assertTrue(node.value is None or type(node.value) in (int, str, bool), where)
            if type(node.value) is str:
                self.assertNotIn("%", node.value, where)
        for where, node in nodes(ast.FormattedValue):
            self.assertIsInstance(node.value, ast.Name, where)
            self.assertIsNone(node.format_spec, where)
        for where, node in nodes(ast.ListComp):
            self.assertEqual(len(node.generators), 1, where)
            self.assertLessEqual(len(node.generators[0].ifs), 1, where)
        for where, node in nodes(ast.Compare):
            for op, right in zip(node.ops, node.comparators):
                if isinstance(op, (ast.Is, ast.IsNot)):
                    self.assertIsInstance(right, ast.Constant, where)


class Names(unittest.TestCase):
    def test_names_read_and_bound(self):
        for where, node in nodes(ast.Name):
            self.assertRegex(node.id, r"^[A-Za-z]\w*$", where)
            self.assertNotIn(node.id, OUT_OF_USE, where)
            if isinstance(node.ctx, ast.Store):
                self.assertNotIn(node.id, dir(builtins), where)
            elif node.id in dir(builtins):
                self.assertIn(node.id, BUILT_IN, where)
        for where, node in nodes(ast.arg):
            self.assertRegex(node.arg, r"^[A-Za-z]\w*$", where)
            self.assertNotIn(node.arg, dir(builtins), where)
        for where, node in nodes(ast.FunctionDef, ast.ClassDef):
            self.assertTrue(node.name in DOUBLE or not node.name.startswith("_"), where)
            self.assertNotIn(node.name, dir(builtins), where)

    def test_no_parameter_or_local_is_called_like_an_import_or_class(self):
        for name, tree in trees():
            taken = {alias.name for node in tree.body if isinstance(node, ast.ImportFrom) for alias in node.names}
            taken |= {node.name for node in tree.body if isinstance(node, ast.ClassDef)}
            for node in ast.walk(tree):
                if isinstance(node, ast.arg):
                    self.assertNotIn(node.arg, taken, name)
                if isinstance(node, ast.Name) and isinstance(node.ctx, ast.Store):
                    self.assertNotIn(node.id, taken, name)

    def test_methods_called(self):
        own = {part.name for _, node in nodes(ast.ClassDef) for part in node.body if isinstance(part, ast.FunctionDef)}
        for where, node in nodes(ast.Call):
            if isinstance(node.func, ast.Attribute):
                self.assertIn(node.func.attr, METHODS | own, where)

    def test_lists_and_dicts_of_the_top_are_only_read(self):
        for name, tree in trees():
            kept = {node.targets[0].id for node in tree.body
                    if isinstance(node, ast.Assign) and isinstance(node.value, (ast.List, ast.Dict))}
            for node in ast.walk(tree):
                for child in ast.iter_child_nodes(node):
                    if isinstance(child, ast.Name) and child.id in kept and isinstance(child.ctx, ast.Load):
                        read = isinstance(node, ast.Subscript) and isinstance(node.ctx, ast.Load)
                        self.assertTrue(read, f"{name}:{child.lineno}")


if __name__ == "__main__":
    unittest.main()
