"""The package keeps to the part of Python that it may use: what of LANGUAGE.md can be seen in the syntax tree."""

import ast
import builtins
import pathlib
import re
import unittest

PACKAGE = pathlib.Path(__file__).resolve().parent.parent / "ringsheet"
OWN_NAMES = set((
    "len range enumerate zip min max sum abs sorted reversed int str bool list tuple dict set frozenset isinstance ord repr any "
    "all divmod Exception ValueError TypeError KeyError IndexError LookupError ZeroDivisionError ArithmeticError OverflowError "
    "RuntimeError NotImplementedError AttributeError StopIteration"
).split())
OWN_METHODS = set((
    "append clear copy count endswith extend find get index insert isalnum isalpha isdigit islower isspace isupper items join keys "
    "ljust lower lstrip partition pop remove replace reverse rfind rjust rpartition rsplit rstrip setdefault split splitlines "
    "startswith strip update upper values zfill bit_length"
).split())
UNUSED_WORDS = (
    "type typing typing_extensions enum Enum IntEnum StrEnum Flag IntFlag Generic Protocol ABC ABCMeta namedtuple NamedTuple "
    "TypedDict TYPE_CHECKING abstractmethod"
).split()
UNUSED_NAMES = set((
    "register mro elements open input version_info with_traceback add_note attrgetter breakpoint builtins compile copyright credits "
    "delattr dir eval exec exit gc getattr globals hasattr help id importlib license locals methodcaller os quit setattr super "
    "type vars sys format format_map"
).split())
NODES = (
    ast.Module, ast.Expr, ast.Assign, ast.AugAssign, ast.If, ast.While, ast.For, ast.Return, ast.Break, ast.Continue, ast.Pass,
    ast.Raise, ast.Try, ast.ExceptHandler, ast.FunctionDef, ast.ClassDef, ast.ImportFrom, ast.alias, ast.arguments, ast.arg,
    ast.Constant, ast.List, ast.Tuple, ast.Dict, ast.Name, ast.Attribute, ast.Subscript, ast.Slice, ast.Call, ast.keyword,
    ast.BinOp, ast.UnaryOp, ast.BoolOp, ast.Compare, ast.IfExp, ast.ListComp, ast.comprehension, ast.Load, ast.Store,
    ast.operator, ast.unaryop, ast.boolop, ast.cmpop,
)
DUNDER_METHODS = ("__init__",)
CHANGES = ("append", "clear", "extend", "insert", "pop", "remove", "reverse", "setdefault", "update")


def files():
    return sorted(path for path in PACKAGE.rglob("*") if "__pycache__" not in path.parts)


def trees():
    return [(path.name, ast.parse(path.read_text(encoding="utf-8"))) for path in files()]


def nodes(*kinds):
    return [(name, node) for name, tree in trees() for node in ast.walk(tree) if isinstance(node, kinds)]


def is_plain(node):
    if isinstance(node, ast.UnaryOp) and isinstance(node.op, ast.USub):
        return is_plain(node.operand)
    if isinstance(node, (ast.List, ast.Tuple)):
        return all(is_plain(one) for one in node.elts)
    if isinstance(node, ast.Dict):
        return all(is_plain(one) for one in node.keys + node.values)
    return isinstance(node, ast.Constant) and isinstance(node.value, (int, str, type(None)))


class Language(unittest.TestCase):
    def test_files(self):
        self.assertIn(PACKAGE / "__init__.py", files())
        for path in files():
            self.assertRegex(path.name, r"^[a-z][a-z0-9_]*\.py$|^__init__\.py$")
            self.assertNotIn(path.stem, dir(builtins))
            text = path.read_text(encoding="utf-8")
            self.assertRegex(text, r"\A[ -~\n]*\Z", path.name)
            self.assertLessEqual(len(text.splitlines()), 400, path.name)
            self.assertLessEqual(max(len(line) for line in text.splitlines()), 120, path.name)
            for word in UNUSED_WORDS:
                self.assertNotRegex(text, rf"\b{word}\b", path.name)
            self.assertNotRegex(text, "dataclass|overload|contextmanager")

    def test_nothing_but_the_listed_forms(self):
        for name, tree in trees():
            for node in ast.walk(tree):
                self.assertIsInstance(node, NODES, (name, getattr(node, "lineno", 0)))

    def test_top_of_modules(self):
        for name, tree in trees():
            self.assertIsNotNone(ast.get_docstring(tree), name)
            bound = []
            for node in tree.body[1:]:
                self.assertIsInstance(node, (ast.ImportFrom, ast.FunctionDef, ast.ClassDef, ast.Assign), (name, node.lineno))
                if isinstance(node, ast.Assign):
                    self.assertTrue(is_plain(node.value), (name, node.lineno))
                    bound.append(node.targets[0].id)
                elif isinstance(node, ast.ImportFrom):
                    bound.extend(one.name for one in node.names)
                else:
                    bound.append(node.name)
            self.assertEqual(len(bound), len(set(bound)), name)

    def test_imports(self):
        defined = {
            path.stem: {node.name for node in tree.body if isinstance(node, (ast.FunctionDef, ast.ClassDef))}
            | {node.targets[0].id for node in tree.body if isinstance(node, ast.Assign)}
            for path, (_, tree) in zip(files(), trees())
        }
        draws = {path.stem: set() for path in files()}
        for name, node in nodes(ast.ImportFrom):
            package, _, module = node.module.partition(".")
            self.assertEqual((package, node.level), ("ringsheet", 0))
            draws[name[:-3]].add(module)
            for one in node.names:
                self.assertIsNone(one.asname)
                self.assertIn(one.name, defined[module], (name, node.lineno))
        while draws:
            free = [one for one in draws if not draws[one] & set(draws)]
            self.assertTrue(free, "files draw from one another")
            draws = {one: draws[one] for one in draws if one not in free}

    def test_functions(self):
        for name, node in nodes(ast.FunctionDef):
            where = (name, node.name)
            self.assertLessEqual(node.end_lineno - node.lineno + 1, 40, where)
            self.assertEqual(node.decorator_list, [], where)
            self.assertIsNone(node.args.vararg or node.args.kwarg or node.returns, where)
            self.assertEqual(node.args.kwonlyargs + node.args.posonlyargs, [], where)
            for one in node.args.args:
                self.assertIsNone(one.annotation, where)
                self.assertNotIn(one.arg, dir(builtins), where)

    def test_classes(self):
        methods, values = set(), set()
        for name, node in nodes(ast.ClassDef):
            self.assertEqual(node.decorator_list + node.keywords, [], node.name)
            self.assertLessEqual(len(node.bases), 1, node.name)
            for one in node.body[1:]:
                self.assertIsInstance(one, ast.FunctionDef, node.name)
                methods.add(one.name)
        for name, node in nodes(ast.Attribute):
            if isinstance(node.ctx, ast.Store):
                values.add(node.attr)
        self.assertEqual(methods & values, set())
        taken = {one for kind in (str, int, list, dict, set, bytes) for one in dir(kind)}
        self.assertEqual((methods | values) & taken - {"__init__"}, set())

    def test_names(self):
        for name, tree in trees():
            own = {node.name for node in ast.walk(tree) if isinstance(node, (ast.FunctionDef, ast.ClassDef))}
            imported = {one.name for node in ast.walk(tree) if isinstance(node, ast.ImportFrom) for one in node.names}
            classes = {node.name for node in ast.walk(tree) if isinstance(node, ast.ClassDef)}
            for node in ast.walk(tree):
                word = getattr(node, "id", getattr(node, "attr", getattr(node, "arg", None)))
                if word is None:
                    continue
                self.assertRegex(word, r"^[A-Za-z][A-Za-z0-9_]*$", (name, node.lineno))
                self.assertNotIn(word, UNUSED_NAMES, (name, node.lineno))
                if isinstance(node, ast.Name) and isinstance(node.ctx, ast.Store):
                    self.assertNotIn(word, dir(builtins), (name, node.lineno))
                    self.assertNotIn(word, imported | classes, (name, node.lineno))
                elif isinstance(node, ast.Name) and word in dir(builtins):
                    self.assertIn(word, OWN_NAMES, (name, node.lineno))
            self.assertTrue(all(re.match("[A-Za-z]", one) or one in DUNDER_METHODS for one in own))

    def test_expressions(self):
        for name, node in nodes(ast.BinOp, ast.AugAssign):
            self.assertNotIsInstance(node.op, (ast.Div, ast.MatMult, ast.Pow), (name, node.lineno))
        for name, node in nodes(ast.Compare):
            for sign, other in zip(node.ops, node.comparators):
                if isinstance(sign, (ast.Is, ast.IsNot)):
                    self.assertIsInstance(other, ast.Constant, (name, node.lineno))
        for name, node in nodes(ast.Constant):
            self.assertNotIsInstance(node.value, (float, complex, bytes), (name, node.lineno))
            if isinstance(node.value, str):
                self.assertNotIn("%", node.value, (name, node.lineno))
        for name, node in nodes(ast.ListComp):
            self.assertEqual(len(node.generators), 1)
            self.assertLessEqual(len(node.generators[0].ifs), 1)
        for name, node in nodes(ast.For, ast.While):
            self.assertEqual(node.orelse, [], (name, node.lineno))
        for name, node in nodes(ast.Try):
            self.assertEqual(node.finalbody, [], (name, node.lineno))
        for name, node in nodes(ast.Assign):
            self.assertEqual(len(node.targets), 1, (name, node.lineno))
            self.assertNotIsInstance(node.targets[0], (ast.Tuple, ast.List), (name, node.lineno))

    def test_methods_that_are_called(self):
        own = {one.name for _, node in nodes(ast.ClassDef) for one in node.body if isinstance(one, ast.FunctionDef)}
        for name, node in nodes(ast.Call):
            if isinstance(node.func, ast.Attribute):
                self.assertIn(node.func.attr, own | OWN_METHODS, (name, node.lineno))
                self.assertEqual(node.keywords, [], (name, node.lineno))
            for one in node.keywords:
                self.assertIn((node.func.id, one.arg), (("min", "default"), ("max", "default"), ("sorted", "key")))

    def test_values_walked_at_once(self):
        kept = ("range", "enumerate", "zip", "reversed")
        for name, tree in trees():
            walked = {id(node.iter) for node in ast.walk(tree) if isinstance(node, (ast.For, ast.comprehension))}
            for node in ast.walk(tree):
                if isinstance(node, ast.Call) and isinstance(node.func, ast.Name) and node.func.id in kept:
                    self.assertIn(id(node), walked, (name, node.lineno))

    def test_top_lists_and_dicts_are_only_read(self):
        for name, tree in trees():
            tops = {node.targets[0].id for node in tree.body if isinstance(node, ast.Assign)}
            for node in ast.walk(tree):
                if isinstance(node, ast.Subscript) and isinstance(node.ctx, ast.Store):
                    self.assertNotIn(getattr(node.value, "id", ""), tops, (name, node.lineno))
                if isinstance(node, ast.Call) and isinstance(node.func, ast.Attribute) and node.func.attr in CHANGES:
                    self.assertNotIn(getattr(node.func.value, "id", ""), tops, (name, node.lineno))

    def test_nothing_calls_itself(self):
        # What may be nested as deep as its input is long is gone through by loops: no way of calls leads back.
        calls = {}
        for name, node in nodes(ast.FunctionDef):
            called = [one.func for one in ast.walk(node) if isinstance(one, ast.Call)]
            names = {getattr(one, "attr", getattr(one, "id", "")) for one in called}
            calls[node.name] = names
        while calls:
            free = [one for one in calls if not calls[one] & set(calls)]
            self.assertTrue(free, sorted(calls))
            calls = {one: calls[one] for one in calls if one not in free}


if __name__ == "__main__":
    unittest.main()
