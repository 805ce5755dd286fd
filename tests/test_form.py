"""The form of the package's code: the small part of Python that it keeps to."""

import ast
import builtins
import pathlib
import re
import unittest

ROOT = pathlib.Path(__file__).resolve().parent.parent / "casedecided"
PLAIN = re.compile(r"[A-Za-z][A-Za-z0-9_]*\Z")

STATEMENTS = (ast.Assign, ast.AugAssign, ast.AnnAssign, ast.If, ast.While, ast.For, ast.Return, ast.Break,
              ast.Continue, ast.Pass, ast.Raise, ast.Try, ast.Expr, ast.FunctionDef, ast.ClassDef, ast.ImportFrom)
EXPRESSIONS = (ast.Constant, ast.List, ast.Tuple, ast.Dict, ast.Set, ast.BinOp, ast.UnaryOp, ast.BoolOp, ast.Compare,
               ast.IfExp, ast.Call, ast.Attribute, ast.Subscript, ast.Slice, ast.ListComp, ast.JoinedStr,
               ast.FormattedValue, ast.Lambda, ast.Name)
SIGNS = (ast.Add, ast.Sub, ast.Mult, ast.FloorDiv, ast.Mod, ast.Pow, ast.BitAnd, ast.BitOr, ast.BitXor, ast.LShift,
         ast.RShift, ast.Invert, ast.Not, ast.USub, ast.UAdd)
ERRORS = {"Exception", "ValueError", "TypeError", "KeyError", "IndexError", "LookupError", "ZeroDivisionError",
          "ArithmeticError", "OverflowError", "RuntimeError", "NotImplementedError", "AttributeError",
          "StopIteration"}
OWN = {"len", "range", "enumerate", "zip", "min", "max", "sum", "abs", "sorted", "reversed", "int", "str", "bool",
       "list", "tuple", "dict", "set", "frozenset", "isinstance", "ord", "repr", "any", "all", "divmod"} | ERRORS
METHODS = set("append clear copy count endswith extend find get index insert isalnum isalpha isdigit islower isspace "
              "isupper items join keys ljust lower lstrip partition pop remove replace reverse rfind rjust rpartition "
              "rsplit rstrip setdefault split splitlines startswith strip update upper values zfill "
              "bit_length".split())
UNUSED = set("register mro elements open input version_info with_traceback add_note format format_map".split())
WORDS = re.compile(r"\b(type|typing|typing_extensions|enum|Enum|IntEnum|StrEnum|Flag|IntFlag|Generic|Protocol|ABC|"
                   r"ABCMeta|namedtuple|NamedTuple|TypedDict|TYPE_CHECKING|abstractmethod)\b|"
                   r"dataclass|overload|contextmanager")
DUNDERS = {"__init__", "__eq__", "__repr__", "__str__", "__len__"}
WALKED = {"zip", "enumerate", "reversed", "range"}
WALKERS = {"list", "tuple", "dict", "sorted", "sum", "any", "all", "enumerate", "zip", "min", "max"}
CHANGING = set("append clear extend insert pop remove reverse setdefault update".split())
KEYWORDS = {"sorted": {"key", "reverse"}, "min": {"key", "default"}, "max": {"key", "default"}, "sum": {"start"},
            "enumerate": {"start"}, "zip": {"strict"}}
FILE_NAMES = re.compile(r"(__init__|__main__|[a-z][a-z0-9_]*)\.py\Z")
NO_FILE = re.compile(r"(test|tests|testing|test_.*|site|conftest|sitecustomize|usercustomize)\Z")


def plain(node, functions):
    """Whether a value may stand at a file's top."""
    if isinstance(node, ast.UnaryOp):
        return isinstance(node.op, ast.USub) and plain(node.operand, functions)
    if isinstance(node, ast.Dict):
        return all(plain(part, functions) for part in node.keys + node.values)
    if isinstance(node, (ast.List, ast.Tuple)):
        return all(plain(part, functions) for part in node.elts)
    return isinstance(node, ast.Constant) or isinstance(node, ast.Name) and node.id in functions


def bound(node):
    """The names that a def binds for itself."""
    found = [arg.arg for arg in node.args.args]
    for inner in ast.walk(node):
        if isinstance(inner, ast.Name) and isinstance(inner.ctx, ast.Store):
            found.append(inner.id)
    return found


class File:
    def __init__(self, path):
        self.path = path
        self.text = path.read_bytes().decode("utf-8")
        self.tree = ast.parse(self.text)
        self.parents = {child: node for node in ast.walk(self.tree) for child in ast.iter_child_nodes(node)}
        self.imports = [node for node in self.tree.body if isinstance(node, ast.ImportFrom)]
        self.defs = [node.name for node in self.tree.body if isinstance(node, (ast.FunctionDef, ast.ClassDef))]
        self.values = [node.targets[0].id for node in self.tree.body if isinstance(node, ast.Assign)]
        self.drawn = [alias.name for node in self.imports for alias in node.names]
        self.classes = [node.name for node in ast.walk(self.tree) if isinstance(node, ast.ClassDef)]


FILES = {path.stem: File(path) for path in sorted(ROOT.glob("*.py"))}


class Form(unittest.TestCase):
    where = ""

    def _formatMessage(self, msg, standardMsg):
        return f"{self.where} {super()._formatMessage(msg, standardMsg)}"

    def each(self, *kinds):
        for stem, file in FILES.items():
            for node in ast.walk(file.tree):
                if isinstance(node, kinds):
                    line = getattr(node, "lineno", getattr(file.parents.get(node), "lineno", 0))
                    self.where = f"{stem}, line {line}:"
                    yield file, node

    def test_files(self):
        self.assertIn("__init__", FILES)
        for path in ROOT.iterdir():
            if path.name != "__pycache__":
                self.assertRegex(path.name, FILE_NAMES)
                self.assertNotRegex(path.stem, NO_FILE)
                self.assertNotIn(path.stem, dir(builtins))

    def test_signs_lines_and_words(self):
        for stem, file in FILES.items():
            with self.subTest(file=stem):
                self.assertRegex(file.text, r"\A[ -~\n]*\Z")
                self.assertIsNone(WORDS.search(file.text))
                self.assertLessEqual(len(file.text.splitlines()), 400)
                self.assertLessEqual(max(map(len, file.text.splitlines())), 120)

    def test_the_top_of_a_file(self):
        for stem, file in FILES.items():
            with self.subTest(file=stem):
                names = file.defs + file.values + file.drawn
                self.assertEqual(len(names), len(set(names)))
                for node in file.tree.body[1:]:
                    self.assertIsInstance(node, (ast.ImportFrom, ast.FunctionDef, ast.ClassDef, ast.Assign))
                    if isinstance(node, ast.Assign):
                        above = [d.name for d in file.tree.body if isinstance(d, ast.FunctionDef)
                                 and d.lineno < node.lineno]
                        self.assertTrue(plain(node.value, above), node.lineno)
                self.assertIsInstance(file.tree.body[0].value.value, str)

    def test_imports(self):
        for file, node in self.each(ast.ImportFrom):
            self.assertIn(node, file.tree.body)
            self.assertEqual(node.level, 0)
            package, stem = node.module.split(".")
            self.assertEqual(package, "casedecided")
            for alias in node.names:
                self.assertIsNone(alias.asname)
                self.assertIn(alias.name, FILES[stem].defs + FILES[stem].values)
                uses = [n for n in ast.walk(file.tree) if isinstance(n, ast.Name) and n.id == alias.name]
                self.assertTrue(uses, alias.name)

    def test_no_two_files_draw_from_one_another(self):
        left = {stem: {node.module.split(".")[1] for node in file.imports} for stem, file in FILES.items()}
        while left:
            free = [stem for stem in left if not left[stem]]
            self.assertTrue(free, left)
            left = {stem: drawn - set(free) for stem, drawn in left.items() if stem not in free}

    def test_kinds_of_statements_and_expressions(self):
        for file, node in self.each(ast.stmt):
            self.assertIsInstance(node, STATEMENTS)
            if isinstance(node, ast.Expr):
                self.assertIsInstance(node.value, (ast.Call, ast.Constant))
            if isinstance(node, ast.Assign):
                self.assertEqual(len(node.targets), 1)
                self.assertNotIsInstance(node.targets[0], (ast.Tuple, ast.List))
            if isinstance(node, (ast.For, ast.While)):
                self.assertEqual(node.orelse, [])
            if isinstance(node, ast.Try):
                self.assertEqual(node.finalbody, [])
        for file, node in self.each(ast.expr):
            self.assertIsInstance(node, EXPRESSIONS)
            if isinstance(node, ast.Constant):
                self.assertIn(type(node.value), (int, str, bool, type(None)))
                self.assertNotIn("%", str(node.value))
            if isinstance(node, ast.ListComp):
                self.assertEqual(len(node.generators), 1)
                self.assertLessEqual(len(node.generators[0].ifs), 1)
            if isinstance(node, ast.FormattedValue):
                self.assertIsInstance(node.value, ast.Name)
                self.assertIsNone(node.format_spec)
            if isinstance(node, ast.Compare) and any(isinstance(op, (ast.Is, ast.IsNot)) for op in node.ops):
                self.assertIsInstance(node.comparators[0], ast.Constant)
        for file, node in self.each(ast.operator, ast.unaryop):
            self.assertIsInstance(node, SIGNS)

    def test_functions(self):
        for file, node in self.each(ast.FunctionDef):
            self.assertLessEqual(node.end_lineno - node.lineno + 1, 40)
            self.assertEqual(node.decorator_list, [])
            args = node.args
            self.assertEqual((args.vararg, args.kwarg, args.kwonlyargs, args.posonlyargs), (None, None, [], []))
            for name in bound(node):
                self.assertNotIn(name, dir(builtins))
                self.assertNotIn(name, file.drawn + file.classes)
            if node.name not in DUNDERS:
                self.assertRegex(node.name, PLAIN)
                self.assertNotIn(node.name, dir(builtins))

    def test_classes(self):
        methods = set()
        values = set()
        for file, node in self.each(ast.ClassDef):
            self.assertIn(node, file.tree.body)
            self.assertEqual((node.decorator_list, node.keywords), ([], []))
            self.assertLessEqual(len(node.bases), 1)
            for inner in node.body:
                self.assertTrue(isinstance(inner, ast.FunctionDef) or isinstance(inner.value, ast.Constant))
                if isinstance(inner, ast.FunctionDef):
                    methods.add(inner.name)
        for file, node in self.each(ast.Attribute):
            if isinstance(node.ctx, ast.Store):
                values.add(node.attr)
                for own in (str, int, list, dict, set, bytes):
                    self.assertFalse(hasattr(own, node.attr), node.attr)
        self.assertEqual(methods & values, set())

    def test_names(self):
        for file, node in self.each(ast.Name):
            self.assertRegex(node.id, PLAIN)
            self.assertNotIn(node.id, UNUSED)
            if node.id in dir(builtins):
                self.assertIn(node.id, OWN)
        for file, node in self.each(ast.Attribute):
            self.assertRegex(node.attr, PLAIN)
            self.assertNotIn(node.attr, UNUSED)
            call = file.parents[node]
            if isinstance(call, ast.Call) and call.func is node:
                self.assertIn(node.attr, METHODS)

    def test_walked_at_once(self):
        for file, node in self.each(ast.Call):
            if isinstance(node.func, ast.Name) and node.func.id in WALKED:
                outer = file.parents[node]
                if isinstance(outer, ast.Call):
                    self.assertIn(outer.func.id, WALKERS)
                else:
                    self.assertIsInstance(outer, (ast.For, ast.comprehension))
            if isinstance(node.func, ast.Name) and node.func.id in ("set", "frozenset"):
                outer = file.parents[node]
                if isinstance(outer, ast.Call):
                    self.assertIn(outer.func.id, ("sorted", "len"))
                    self.assertEqual(outer.keywords, [])
                else:
                    self.assertIsInstance(outer, (ast.Compare, ast.BinOp))

    def test_what_a_loop_walks_is_not_changed_in_it(self):
        for file, node in self.each(ast.For):
            walked = [ast.unparse(node.iter)]
            if isinstance(node.iter, ast.Call) and isinstance(node.iter.func, ast.Name):
                walked += [ast.unparse(arg) for arg in node.iter.args]
            for inner in ast.walk(node):
                if isinstance(inner, ast.Call) and isinstance(inner.func, ast.Attribute):
                    if inner.func.attr in CHANGING:
                        self.assertNotIn(ast.unparse(inner.func.value), walked)
                if isinstance(inner, ast.Subscript) and isinstance(inner.ctx, ast.Store):
                    self.assertNotIn(ast.unparse(inner.value), walked)

    def test_keywords(self):
        own = {name for file in FILES.values() for name in file.defs}
        for file, node in self.each(ast.Call):
            names = {keyword.arg for keyword in node.keywords}
            if isinstance(node.func, ast.Name):
                if node.func.id not in own:
                    self.assertLessEqual(names, KEYWORDS.get(node.func.id, set()))
            else:
                self.assertEqual(names, set())

    def test_values_at_the_top_do_not_nest_and_are_not_changed(self):
        for file, node in self.each(ast.Assign):
            if node in file.tree.body and isinstance(node.value, (ast.List, ast.Dict)):
                for inner in list(ast.walk(node.value))[1:]:
                    self.assertNotIsInstance(inner, (ast.List, ast.Dict))
        for file, node in self.each(ast.Subscript, ast.Attribute):
            if isinstance(node.ctx, ast.Store):
                self.assertNotIn(ast.unparse(node.value), file.values + file.drawn + file.classes)

    def test_errors_and_powers(self):
        for file, node in self.each(ast.Raise):
            self.assertIsInstance(node.exc, ast.Call)
        for file, node in self.each(ast.ExceptHandler):
            self.assertNotIn(ast.unparse(node.type), ("Exception", "TypeError"))
        for file, node in self.each(ast.Pow, ast.AnnAssign):
            self.fail("a power or an annotation")
        for file, node in self.each(ast.FunctionDef):
            self.assertIsNone(node.returns)
            self.assertEqual([arg.arg for arg in node.args.args if arg.annotation is not None], [])

    def test_classes_are_only_called_or_named_where_they_may_be(self):
        classes = {name for file in FILES.values() for name in file.classes}
        for file, node in self.each(ast.Name):
            if node.id in classes:
                outer = file.parents[node]
                self.assertTrue(isinstance(outer, (ast.ClassDef, ast.ExceptHandler))
                                or isinstance(outer, ast.Call) and outer.func is node
                                or isinstance(outer, ast.Call) and outer.func.id == "isinstance")


if __name__ == "__main__":
    unittest.main()
