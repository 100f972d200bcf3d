"""The package keeps to the part of Python that LANGUAGE.md tells, as far as
its rules can be seen row by row."""

import ast
import builtins
import pathlib
import re
import unittest

PACKAGE = pathlib.Path(__file__).resolve().parent.parent / "changestacks"

BUILTINS = set("""len range enumerate zip min max sum abs sorted reversed int str bool list tuple
dict set frozenset isinstance ord repr any all divmod Exception ValueError TypeError KeyError
IndexError LookupError ZeroDivisionError ArithmeticError OverflowError RuntimeError
NotImplementedError AttributeError StopIteration""".split())

METHODS = set("""append clear copy count endswith extend find get index insert isalnum isalpha
isdigit islower isspace isupper items join keys ljust lower lstrip partition pop remove replace
reverse rfind rjust rpartition rsplit rstrip setdefault split splitlines startswith strip update
upper values zfill bit_length""".split())

WORDS = set("""type typing typing_extensions enum Enum IntEnum StrEnum Flag IntFlag Generic Protocol
ABC ABCMeta namedtuple NamedTuple TypedDict TYPE_CHECKING abstractmethod""".split())

NAMES = set("""register mro elements open input version_info with_traceback add_note attrgetter
breakpoint compile copyright credits delattr dir eval exec exit gc getattr globals hasattr help id
importlib license locals methodcaller os quit setattr super vars sys""".split())

NODES = (
    ast.Module, ast.FunctionDef, ast.ClassDef, ast.arguments, ast.arg, ast.Lambda,
    ast.ImportFrom, ast.alias, ast.Assign, ast.AugAssign, ast.If, ast.While, ast.For,
    ast.Return, ast.Break, ast.Continue, ast.Pass, ast.Raise, ast.Try, ast.ExceptHandler, ast.Expr,
    ast.Name, ast.Constant, ast.Attribute, ast.Subscript, ast.Slice, ast.Call, ast.keyword,
    ast.List, ast.Tuple, ast.Dict, ast.ListComp, ast.comprehension, ast.JoinedStr,
    ast.FormattedValue, ast.BinOp, ast.UnaryOp, ast.BoolOp, ast.Compare, ast.IfExp,
    ast.expr_context, ast.operator, ast.unaryop, ast.boolop, ast.cmpop)


def files():
    return sorted(PACKAGE.glob("*.py"))


def nodes():
    for file in files():
        for node in ast.walk(ast.parse(file.read_text("utf-8"))):
            yield "%s:%s" % (file.name, getattr(node, "lineno", "")), node


def named(node):
    """Each name that a node binds or uses."""
    found = [getattr(node, field, None) for field in ("id", "arg", "attr", "name", "asname")]
    return [name for name in found if isinstance(name, str)]


def own_methods():
    return {part.name for where, node in nodes() if isinstance(node, ast.ClassDef)
            for part in node.body if isinstance(part, ast.FunctionDef)}


class LanguageTest(unittest.TestCase):
    def test_the_folder_holds_plain_files_alone(self):
        for file in PACKAGE.iterdir():
            if file.name != "__pycache__":
                self.assertRegex(file.name, r"^(__init__|__main__|[a-z][a-z0-9_]*)\.py$")

    def test_signs_and_sizes(self):
        for file in files():
            text = file.read_text("utf-8")
            self.assertRegex(text, r"\A[ -~\n]*\Z", file.name)
            rows = text.split("\n")
            self.assertLessEqual(len(rows), 399, file.name)
            self.assertLessEqual(max(map(len, rows)), 120, file.name)
            self.assertEqual(WORDS & set(re.findall(r"\w+", text)), set(), file.name)
            self.assertIsNone(re.search("dataclass|overload|contextmanager", text), file.name)

    def test_the_top_of_a_file(self):
        for file in files():
            body = ast.parse(file.read_text("utf-8")).body
            self.assertIsInstance(body[0].value.value, str, file.name)
            bound = []
            for part in body[1:]:
                self.assertIsInstance(
                    part, (ast.ImportFrom, ast.FunctionDef, ast.ClassDef, ast.Assign), file.name)
                for target in getattr(part, "targets", []):
                    self.assertIsInstance(target, ast.Name, file.name)
                    bound.append(target.id)
                    self.assertNotIsInstance(part.value, (ast.Call, ast.UnaryOp), file.name)
                bound += [part.name] if hasattr(part, "name") else []
                bound += [alias.name for alias in getattr(part, "names", [])]
            self.assertEqual(len(bound), len(set(bound)), file.name)

    def test_imports_from_the_files_that_define_the_names(self):
        drawn = {}
        for file in files():
            drawn[file.stem] = set()
            for node in ast.walk(ast.parse(file.read_text("utf-8"))):
                if isinstance(node, ast.ImportFrom):
                    self.assertEqual(node.level, 0, file.name)
                    self.assertTrue(node.module.startswith("changestacks."), file.name)
                    source = PACKAGE / (node.module.split(".", 1)[1] + ".py")
                    tops = ast.parse(source.read_text("utf-8")).body
                    defined = {part.name for part in tops if hasattr(part, "name")}
                    defined |= {target.id for part in tops for target in getattr(part, "targets", [])}
                    for alias in node.names:
                        self.assertIn(alias.name, defined, file.name)
                    drawn[file.stem].add(source.stem)
        while drawn:
            ends = [name for name in drawn if not drawn[name] & set(drawn)]
            self.assertTrue(ends, "files that draw from one another: %s" % sorted(drawn))
            for name in ends:
                del drawn[name]

    def test_statements_and_expressions(self):
        for where, node in nodes():
            self.assertIsInstance(node, NODES, where)
            self.assertNotIsInstance(node, (ast.Div, ast.MatMult), where)
            if isinstance(node, ast.Assign):
                self.assertEqual(len(node.targets), 1, where)
            if isinstance(node, (ast.For, ast.While)):
                self.assertEqual(node.orelse, [], where)
            if isinstance(node, ast.ListComp):
                self.assertEqual(len(node.generators), 1, where)
                self.assertLessEqual(len(node.generators[0].ifs), 1, where)
            if isinstance(node, ast.Constant):
                self.assertIn(type(node.value), (int, str, bool, type(None)), where)
            if isinstance(node, ast.Compare) and isinstance(node.ops[0], (ast.Is, ast.IsNot)):
                self.assertIsInstance(node.comparators[0], ast.Constant, where)

    def test_functions_and_classes(self):
        for where, node in nodes():
            if isinstance(node, ast.FunctionDef):
                self.assertLessEqual(node.end_lineno - node.lineno + 1, 40, where)
                self.assertEqual(node.decorator_list, [], where)
                self.assertIsNone(node.returns, where)
                self.assertIsNone(node.args.vararg or node.args.kwarg, where)
                self.assertEqual(node.args.kwonlyargs + node.args.posonlyargs, [], where)
                self.assertNotIsInstance(node.body[0], ast.Expr, where)
            if isinstance(node, ast.ClassDef):
                self.assertTrue(all(isinstance(part, ast.FunctionDef) for part in node.body), where)

    def test_names(self):
        special = {"__init__", "__eq__", "__repr__", "__str__", "__len__", "__name__"}
        for where, node in nodes():
            for name in named(node):
                if name not in special and not isinstance(node, ast.ImportFrom):
                    self.assertRegex(name, r"\A[A-Za-z][A-Za-z0-9_]*\Z", where)
                self.assertNotIn(name, NAMES, where)
            if isinstance(node, ast.Name) and hasattr(builtins, node.id):
                self.assertIn(node.id, BUILTINS, where)
                self.assertIsInstance(node.ctx, ast.Load, where)
            if isinstance(node, ast.arg):
                self.assertFalse(hasattr(builtins, node.arg), where)
            if isinstance(node, (ast.FunctionDef, ast.ClassDef)) and node.name not in special:
                self.assertFalse(hasattr(builtins, node.name), where)

    def test_methods(self):
        own = own_methods()
        values = set()
        for where, node in nodes():
            if isinstance(node, ast.Call) and isinstance(node.func, ast.Attribute):
                self.assertIn(node.func.attr, METHODS | own, where)
            if isinstance(node, ast.Attribute) and isinstance(node.ctx, ast.Store):
                values.add(node.attr)
        self.assertEqual(own & values, set())

    def test_sets_are_walked_sorted_alone(self):
        kept = [where for where, node in nodes()
                if isinstance(node, ast.Assign) and isinstance(node.value, ast.Call)
                and getattr(node.value.func, "id", "") in ("set", "frozenset", "zip", "range",
                                                           "enumerate", "reversed")]
        self.assertEqual(kept, [])

    def test_no_local_is_called_like_an_import_or_a_class_of_its_file(self):
        for file in files():
            tree = ast.parse(file.read_text("utf-8"))
            taken = {alias.name for part in tree.body for alias in getattr(part, "names", [])}
            taken |= {part.name for part in tree.body if isinstance(part, ast.ClassDef)}
            for node in ast.walk(tree):
                if isinstance(node, ast.Name) and isinstance(node.ctx, ast.Store):
                    self.assertNotIn(node.id, taken, file.name)
                if isinstance(node, ast.arg):
                    self.assertNotIn(node.arg, taken, file.name)
