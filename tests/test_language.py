"""Many of the rules of LANGUAGE.md over all files of the package, each test by the number of its rule.

Where a rule allows more than the package uses, the test allows what the package uses.
"""

import ast
import builtins
import io
import pathlib
import re
import sys
import tokenize
import unittest
import warnings

ROOT = pathlib.Path(__file__).resolve().parent.parent
PACKAGE = ROOT / "hingehall"

LIBRARY = {
    "heapq": {"heappush", "heappop"},
    "itertools": {"combinations"},
}
BUILTINS = {
    "len", "range", "enumerate", "zip", "min", "max", "sum", "abs", "sorted", "reversed", "int", "str", "bool", "list",
    "tuple", "dict", "set", "isinstance", "any", "all", "super", "ValueError",
}
# The methods of builtin values that the package calls, of those that are allowed.
METHODS = {"append", "extend", "index", "join", "pop", "split"}
STATEMENTS = (
    ast.FunctionDef, ast.ClassDef, ast.Return, ast.Assign, ast.AugAssign, ast.For, ast.While, ast.If, ast.Raise,
    ast.Try, ast.ImportFrom, ast.Expr, ast.Pass, ast.Break, ast.Continue,
)
EXPRESSIONS = (
    ast.BoolOp, ast.BinOp, ast.UnaryOp, ast.IfExp, ast.Dict, ast.ListComp, ast.SetComp, ast.DictComp, ast.Compare,
    ast.Call, ast.FormattedValue, ast.JoinedStr, ast.Constant, ast.Attribute, ast.Subscript, ast.Name, ast.List,
    ast.Tuple, ast.Slice,
)
OPERATORS = (ast.Add, ast.Sub, ast.Mult, ast.FloorDiv)
BARRED = {
    "register", "mro", "elements", "open", "input", "law", "version_info", "with_traceback", "add_note", "attrgetter",
    "breakpoint", "builtins", "compile", "copyright", "credits", "delattr", "dir", "eval", "exec", "exit", "gc",
    "getattr", "globals", "hasattr", "help", "id", "importlib", "license", "locals", "methodcaller", "os", "quit",
    "setattr", "type", "vars", "sys",
}
BARRED_WORDS = (
    "type", "typing", "typing_extensions", "enum", "Enum", "IntEnum", "StrEnum", "Flag", "IntFlag", "Generic",
    "Protocol", "ABC", "ABCMeta", "namedtuple", "NamedTuple", "TypedDict", "TYPE_CHECKING", "abstractmethod",
)
BARRED_FILES = ("test", "tests", "testing", "site", "conftest", "sitecustomize", "usercustomize")
BARRED_NAMES = ("_cold", "_tuplegetter", "_outside", "_record", "_written_out", "_member_names")
BARRED_BEGINNINGS = ("_wall", "_pe_", "_dcw_", "_enum_", "_cm_", "_twin_re_", "_lay_", "_law_", "_stub_", "_sre")
BUILTIN_ATTRIBUTES = {name for kind in (str, int, list, dict, set, bytes, tuple) for name in dir(kind)}


class File:
    """One file of the package, read once."""

    def __init__(self, path):
        self.path = path
        self.name = path.stem
        self.text = path.read_text(encoding="utf-8")
        self.tree = ast.parse(self.text)
        self.nodes = list(ast.walk(self.tree))
        for node in self.nodes:
            for child in ast.iter_child_nodes(node):
                child.parent = node

    def of(self, *kinds):
        return [node for node in self.nodes if isinstance(node, kinds)]

    def docstrings(self):
        found = []
        for node in self.of(ast.Module, ast.ClassDef, ast.FunctionDef):
            first = node.body[0] if node.body else None
            if isinstance(first, ast.Expr) and isinstance(first.value, ast.Constant):
                found.append(first.value)
        return found

    def strings(self):
        """All strings but docstrings."""
        docs = self.docstrings()
        return [node for node in self.of(ast.Constant) if isinstance(node.value, str) and node not in docs]

    def imports(self):
        return {alias.name for node in self.of(ast.ImportFrom) for alias in node.names}

    def top(self):
        """The names bound at module level, with those imported, each as often as it is bound."""
        names = []
        for node in self.tree.body:
            if isinstance(node, (ast.FunctionDef, ast.ClassDef)):
                names.append(node.name)
            elif isinstance(node, ast.ImportFrom):
                names += [alias.name for alias in node.names]
            elif isinstance(node, ast.Assign):
                names += [target.id for target in node.targets]
        return names

    def bound(self):
        """All names of parameters and local variables."""
        names = [argument.arg for argument in self.of(ast.arg)]
        for node in self.of(ast.Name):
            if isinstance(node.ctx, ast.Store) and not isinstance(node.parent.parent, ast.Module) \
                    and not isinstance(node.parent, ast.Module):
                names.append(node.id)
        return names


def loaded():
    return [File(path) for path in sorted(PACKAGE.glob("*.py"))]


class Rules(unittest.TestCase):
    @classmethod
    def setUpClass(cls):
        cls.files = loaded()
        cls.functions = {name.name for file in cls.files for name in file.of(ast.FunctionDef)}
        cls.classes = {node.name: node for file in cls.files for node in file.of(ast.ClassDef)}
        cls.own_methods = {
            part.name for node in cls.classes.values() for part in node.body if isinstance(part, ast.FunctionDef)
        }
        cls.errors = set(cls.classes) - {"Bench"}

    def setUp(self):
        self.place = None

    def _formatMessage(self, message, standard):
        """What failed, with the place where it stands."""
        told = super()._formatMessage(message, standard)
        return told if self.place is None else f"{self.place}: {told}"

    def each(self, *kinds):
        """(file, node) for all nodes of these kinds."""
        for file in self.files:
            for node in file.of(*kinds):
                self.place = f"{file.path.name}, line {getattr(node, 'lineno', '?')}"
                yield file, node
        self.place = None

    def test_l1_l14_files(self):
        inside = [path for path in PACKAGE.iterdir() if path.name != "__pycache__"]
        self.assertEqual(sorted(inside), [file.path for file in self.files])
        names = [file.name for file in self.files]
        self.assertIn("__init__", names)
        self.assertNotIn(PACKAGE.name, sys.stdlib_module_names)
        for name in names:
            self.assertRegex(name, r"^(__init__|[a-z][a-z0-9_]*)$")
            self.assertNotIn(name, BARRED | set(dir(builtins)) | set(LIBRARY) | set(BARRED_FILES))
            self.assertFalse(name.startswith(("law_", "test_")))

    def test_l2_l16_imports(self):
        defined = {f"hingehall.{file.name}": file for file in self.files}
        for file, node in self.each(ast.Import, ast.ImportFrom):
            self.assertIsInstance(node, ast.ImportFrom)
            self.assertIs(node.parent, file.tree)
            self.assertEqual([node.level, [alias.asname for alias in node.names]], [0, [None] * len(node.names)])
            for alias in node.names:
                if node.module in LIBRARY:
                    self.assertIn(alias.name, LIBRARY[node.module])
                else:
                    other = defined[node.module]
                    self.assertIn(alias.name, set(other.top()) - other.imports())
        for file in self.files:
            kinds = [isinstance(node, ast.ImportFrom) for node in file.tree.body[1:]]
            self.assertEqual(kinds, sorted(kinds, reverse=True), file.name)

    def test_l16_no_two_files_import_from_each_other(self):
        left = {file.name: {node.module.split(".")[-1] for node in file.of(ast.ImportFrom)
                            if node.module.startswith("hingehall.")} for file in self.files}
        while left:
            free = [name for name, others in left.items() if not others & set(left)]
            self.assertNotEqual(free, [], left)
            for name in free:
                del left[name]

    def test_all_that_is_imported_is_used(self):
        for file in self.files:
            read = {node.id for node in file.of(ast.Name)}
            self.assertEqual(file.imports() - read, set(), file.name)

    def test_l2_library_names_are_only_called_in_functions(self):
        for file, node in self.each(ast.Name):
            if node.id in LIBRARY["heapq"] | LIBRARY["itertools"]:
                self.assertIsInstance(node.parent, ast.Call)
                self.assertIs(node.parent.func, node)
                self.assertEqual(node.parent.keywords, [])
                if node.id == "combinations":
                    self.assertIsInstance(node.parent.parent, ast.For)
                    self.assertIs(node.parent.parent.iter, node.parent)

    def test_l3_module_level(self):
        for file in self.files:
            for node in file.tree.body:
                with self.subTest(file=file.name, line=node.lineno):
                    self.assertIsInstance(node, (ast.Expr, ast.ImportFrom, ast.FunctionDef, ast.ClassDef, ast.Assign))
                    if isinstance(node, ast.Expr):
                        self.assertIs(node, file.tree.body[0])
                    if isinstance(node, ast.Assign):
                        self.assertEqual([type(target) for target in node.targets], [ast.Name])
                        self.plain(ast.literal_eval(node.value), True)

    def plain(self, value, outer):
        """Numbers, texts and tuples, and around them one dict."""
        if isinstance(value, dict):
            self.assertTrue(outer)
            for part in value.values():
                self.plain(part, False)
        elif isinstance(value, tuple):
            for part in value:
                self.plain(part, False)
        else:
            self.assertIn(type(value), (int, str, bool, type(None)))

    def test_l4_functions(self):
        for _, node in self.each(ast.FunctionDef):
            self.assertEqual(node.decorator_list, [])
            self.assertIsInstance(node.parent, (ast.Module, ast.ClassDef))
            arguments = node.args
            self.assertEqual([arguments.posonlyargs, arguments.vararg, arguments.kwarg], [[], None, None])
            for default in arguments.defaults + arguments.kw_defaults:
                if default is not None:
                    self.assertIn(type(ast.literal_eval(default)), (int, bool, str, type(None)))

    def test_l5_l18_classes(self):
        for file, node in self.each(ast.ClassDef):
            self.assertIs(node.parent, file.tree)
            self.assertEqual([node.decorator_list, node.keywords], [[], []])
            self.assertIn([base.id for base in node.bases], ([], ["ValueError"], ["HallError"]))
            names = [part.name for part in node.body if isinstance(part, ast.FunctionDef)]
            self.assertEqual(len(names), len(set(names)))
            self.assertEqual([name for name in names if name.startswith("__")], ["__init__"] * ("__init__" in names))
            for part in node.body:
                self.assertTrue(isinstance(part, ast.FunctionDef) or isinstance(part.value, ast.Constant))
            assigned = {
                target.attr for target in ast.walk(node)
                if isinstance(target, ast.Attribute) and isinstance(target.ctx, ast.Store)
            }
            self.assertEqual(assigned & set(names), set())

    def test_l6_l7_statements_and_expressions(self):
        for _, node in self.each(ast.stmt):
            self.assertIsInstance(node, STATEMENTS)
            if isinstance(node, ast.Expr):
                self.assertIsInstance(node.value, (ast.Call, ast.Constant))
        for _, node in self.each(ast.expr):
            self.assertIsInstance(node, EXPRESSIONS)
        for _, node in self.each(ast.operator):
            self.assertIsInstance(node, OPERATORS)
        for _, node in self.each(ast.Constant):
            self.assertIn(type(node.value), (int, str, bool, type(None)))
        for _, node in self.each(ast.Call):
            self.assertIsInstance(node.func, (ast.Name, ast.Attribute))

    def test_l7_comprehensions_stand_in_functions_and_not_in_each_other(self):
        kinds = (ast.ListComp, ast.SetComp, ast.DictComp)
        for _, node in self.each(*kinds):
            around, parents = node, []
            while hasattr(around, "parent"):
                around = around.parent
                parents.append(type(around))
            self.assertIn(ast.FunctionDef, parents)
            self.assertEqual([kind for kind in parents if kind in kinds], [])

    def test_l8_l17_names(self):
        for file in self.files:
            known = set(file.top()) | set(file.bound()) | BUILTINS
            for node in file.of(ast.Name):
                with self.subTest(file=file.name, line=node.lineno):
                    self.assertIn(node.id, known)
        for _, node in self.each(ast.Name):
            # Builtins are called, or are what isinstance is asked for, or a base class.
            if node.id in BUILTINS and not isinstance(node.parent, ast.ClassDef):
                self.assertIsInstance(node.parent, ast.Call)
                called = node.parent.func
                self.assertTrue(called is node or called.id == "isinstance")

    def test_l9_no_input_and_output(self):
        for _, node in self.each(ast.Name):
            self.assertNotIn(node.id, ("print", "open", "input", "sys"))

    def test_l10_sizes(self):
        for file in self.files:
            lines = file.text.split("\n")
            self.assertLessEqual(len(lines), 399, file.name)
            self.assertEqual([line for line in lines if len(line) > 120], [], file.name)
        for _, node in self.each(ast.FunctionDef):
            self.assertLessEqual(node.end_lineno - node.lineno + 1, 40)

    def test_l12_plain_names(self):
        for file in self.files:
            names = set(file.top()) | set(file.bound())
            attributes = {node.attr for node in file.of(ast.Attribute)}
            methods = {node.name for node in file.of(ast.FunctionDef)}
            for name in names | attributes | methods:
                self.assertRegex(name, r"^(__init__|_|_?[A-Za-z][A-Za-z0-9_]*)$")
                self.assertFalse(name.rstrip("0123456789_") in BARRED_NAMES, name)
            for name in names:
                self.assertFalse(name.startswith(BARRED_BEGINNINGS), name)
            self.assertNotRegex(file.text, r"\b(_wall|_WallAttr)\b")
            self.assertEqual([node for node in file.of(ast.Name) if node.id == "_" and isinstance(node.ctx, ast.Load)],
                             [], file.name)

    def test_l14_signs(self):
        for file in self.files:
            self.assertEqual([sign for sign in file.text if sign != "\n" and not " " <= sign <= "~"], [], file.name)

    def test_l15_one_binding_and_no_state_at_module_level(self):
        for file in self.files:
            with self.subTest(file=file.name):
                names = file.top()
                self.assertEqual(len(names), len(set(names)))
                barred = set(file.imports()) | {node.name for node in file.of(ast.ClassDef)}
                self.assertEqual(barred & set(file.bound()), set())
                self.assertEqual((set(names) | set(file.bound())) & set(dir(builtins)), set())
        for file, node in self.each(ast.Attribute, ast.Subscript):
            if isinstance(node.ctx, ast.Store) and isinstance(node.value, ast.Name):
                self.assertNotIn(node.value.id, file.top())
        for file, node in self.each(ast.Call):
            if isinstance(node.func, ast.Attribute) and isinstance(node.func.value, ast.Name):
                if node.func.value.id in file.top():
                    self.assertEqual(node.func.attr, "index")

    def test_l17_words(self):
        for file in self.files:
            names = set(file.top()) | set(file.bound()) | {node.name for node in file.of(ast.FunctionDef)}
            self.assertEqual(names & BARRED, set(), file.name)
            for token in tokenize.generate_tokens(io.StringIO(file.text).readline):
                if token.type == tokenize.NAME:
                    self.assertNotIn(token.string, BARRED_WORDS, file.name)
            for node in file.strings():
                self.assertIsNone(re.search(r"\b(" + "|".join(BARRED_WORDS) + r")\b", node.value), file.name)
            self.assertNotRegex(file.text, "dataclass|overload|contextmanager")

    def test_l18_classes_are_called_raised_or_bases(self):
        for _, node in self.each(ast.Name):
            if node.id in self.classes:
                parent = node.parent
                called = isinstance(parent, ast.Call) and parent.func is node
                self.assertTrue(called or isinstance(parent, ast.ClassDef))

    def test_l18_attributes_that_are_read_are_assigned(self):
        attributes = [node for file in self.files for node in file.of(ast.Attribute)]
        assigned = {node.attr for node in attributes if isinstance(node.ctx, ast.Store)}
        for _, node in self.each(ast.Attribute):
            if isinstance(node.parent, ast.Call) and node.parent.func is node:
                self.assertIn(node.attr, METHODS | self.own_methods)
            else:
                self.assertIn(node.attr, assigned)

    def test_l6_l19_tries_and_raises(self):
        for _, node in self.each(ast.Try):
            self.assertEqual(node.handlers, [])
            for part in node.finalbody:
                if isinstance(part, ast.Assign):
                    self.assertIsInstance(part.value, (ast.Name, ast.Attribute, ast.Constant))
                    self.assertEqual([type(target) for target in part.targets], [ast.Attribute])
                else:
                    self.assertIsInstance(part, ast.Expr)
                    self.assertEqual(part.value.func.attr, "append")
                    self.assertIsInstance(part.value.args[0], (ast.Name, ast.Constant))
        self.assertEqual({"append", "clear"} & self.own_methods, set())
        for _, node in self.each(ast.Raise):
            self.assertIsInstance(node.exc, ast.Call)
            self.assertIn(node.exc.func.id, self.errors)
            self.assertIs(node.cause, None)

    def test_l20_is(self):
        for _, node in self.each(ast.Compare):
            for operator, side in zip(node.ops, node.comparators):
                if isinstance(operator, (ast.Is, ast.IsNot)):
                    self.assertIsInstance(side, ast.Constant)
                    self.assertIn(side.value, (None, True, False))
                else:
                    self.assertNotIn(getattr(side, "value", 0), (None,))

    def test_l21_no_annotations(self):
        for _, node in self.each(ast.FunctionDef):
            self.assertIs(node.returns, None)
        for _, node in self.each(ast.arg):
            self.assertIs(node.annotation, None)

    def test_l22_calls(self):
        for _, node in self.each(ast.Call):
            self.assertEqual(node.keywords, [])
            if isinstance(node.func, ast.Name) and node.func.id == "isinstance":
                self.assertIn(node.args[1].id, ("int", "str", "bool", "tuple", "list"))
            if isinstance(node.func, ast.Name) and node.func.id in self.errors:
                self.assertTrue(all(not isinstance(part, ast.Starred) for part in node.args))

    def test_l23_iterated_at_once(self):
        lazy = ("zip", "enumerate", "reversed", "range")
        for _, node in self.each(ast.Call):
            if isinstance(node.func, ast.Name) and node.func.id in lazy:
                parent = node.parent
                in_loop = isinstance(parent, (ast.For, ast.comprehension)) and parent.iter is node
                in_combinations = isinstance(parent, ast.Call) and parent.func.id == "combinations"
                self.assertTrue(in_loop or in_combinations)

    def test_l23_what_a_loop_goes_over_is_not_changed_in_it(self):
        changing = ("append", "extend", "pop", "heappush", "heappop")
        for file, node in self.each(ast.For):
            over = {ast.dump(part) for part in ast.walk(node.iter)
                    if isinstance(part, (ast.Name, ast.Attribute, ast.Subscript))}
            for part in [inner for row in node.body for inner in ast.walk(row)]:
                if isinstance(part, ast.Call):
                    if isinstance(part.func, ast.Attribute) and part.func.attr in changing:
                        self.assertNotIn(ast.dump(part.func.value), over)
                    if isinstance(part.func, ast.Name) and part.func.id in changing:
                        self.assertNotIn(ast.dump(part.args[0]), over)
                if isinstance(part, ast.Subscript) and isinstance(part.ctx, ast.Store):
                    self.assertNotIn(ast.dump(part.value), over)

    def test_l24_sets(self):
        for _, node in self.each(ast.SetComp, ast.Set, ast.Call):
            if not isinstance(node, ast.Call) or getattr(node.func, "id", None) in ("set", "frozenset"):
                self.assertIsInstance(node.parent, ast.Call)
                self.assertIn(node.parent.func.id, ("sorted", "len"))

    def test_l26_own_methods_and_attributes(self):
        for file in self.files:
            for node in file.of(ast.Attribute):
                if isinstance(node.ctx, ast.Store):
                    self.assertNotIn(node.attr, BUILTIN_ATTRIBUTES)
        self.assertEqual((self.own_methods - {"__init__"}) & BUILTIN_ATTRIBUTES, set())

    def test_l27_strings(self):
        for file in self.files:
            for node in file.strings() + file.docstrings():
                with self.subTest(file=file.name, line=node.lineno):
                    self.assertNotIn("%", node.value)
                    self.assertFalse(node.value.endswith(("._", ".__")))
                    self.assertNotIn("__", node.value)
            for escape in re.findall(r"\\(.)", file.text):
                self.assertIn(escape, "n")
        for _, node in self.each(ast.JoinedStr):
            for part in node.values:
                if isinstance(part, ast.FormattedValue):
                    self.assertIsInstance(part.value, ast.Name)
                    self.assertEqual((part.conversion, part.format_spec), (-1, None))

    def test_l27_python_warns_of_nothing(self):
        for file in self.files:
            with warnings.catch_warnings():
                warnings.simplefilter("error")
                compile(file.text, str(file.path), "exec")

    def test_l28_init_returns_nothing(self):
        for _, node in self.each(ast.FunctionDef):
            if node.name == "__init__":
                self.assertEqual([part for part in ast.walk(node) if isinstance(part, ast.Return)], [])


if __name__ == "__main__":
    unittest.main()
