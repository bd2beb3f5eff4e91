"""The form of the code: those rules of ../shared/LANGUAGE.md that a walk through the sources can see."""

import ast
import builtins
import pathlib
import re
import unittest

PACKAGE = pathlib.Path(__file__).resolve().parent.parent / "causebookdesk"

STATEMENTS = (ast.Assign, ast.AugAssign, ast.If, ast.While, ast.For, ast.Return, ast.Break, ast.Continue, ast.Pass,
              ast.Raise, ast.Try, ast.ExceptHandler, ast.Expr, ast.FunctionDef, ast.ClassDef, ast.ImportFrom)
EXPRESSIONS = (ast.BinOp, ast.UnaryOp, ast.BoolOp, ast.Compare, ast.IfExp, ast.Call, ast.Attribute, ast.Subscript,
               ast.Slice, ast.ListComp, ast.Lambda, ast.List, ast.Tuple, ast.Dict, ast.Set, ast.Constant, ast.Name,
               ast.JoinedStr, ast.FormattedValue)
PARTS = (ast.Module, ast.arguments, ast.arg, ast.keyword, ast.alias, ast.comprehension, ast.expr_context, ast.operator,
         ast.unaryop, ast.boolop, ast.cmpop)
OWN_NAMES = """len range enumerate zip min max sum abs sorted reversed int str bool list tuple dict set frozenset
    isinstance ord repr any all divmod Exception ValueError TypeError KeyError IndexError LookupError ZeroDivisionError
    ArithmeticError OverflowError RuntimeError NotImplementedError AttributeError StopIteration""".split()
OWN_METHODS = """append clear copy count endswith extend find get index insert isalnum isalpha isdigit islower isspace
    isupper items join keys ljust lower lstrip partition pop remove replace reverse rfind rjust rpartition rsplit
    rstrip setdefault split splitlines startswith strip update upper values zfill bit_length""".split()
WORDS = """type typing typing_extensions enum Enum IntEnum StrEnum Flag IntFlag Generic Protocol ABC ABCMeta namedtuple
    NamedTuple TypedDict TYPE_CHECKING abstractmethod""".split()
WITHIN_WORDS = ("dataclass", "overload", "contextmanager")
UNUSED = """register mro elements open input version_info with_traceback add_note attrgetter breakpoint builtins compile
    copyright credits delattr dir eval exec exit gc getattr globals hasattr help id importlib license locals
    methodcaller os quit setattr super sys vars format format_map""".split()
WALKED = ("range", "zip", "enumerate", "reversed")
WALKERS = ("list", "tuple", "dict", "sorted", "sum", "any", "all", "enumerate", "zip", "min", "max")


def sources():
    return sorted(PACKAGE.rglob("*.py"))


def module_name(path):
    return ".".join(("causebookdesk",) + path.relative_to(PACKAGE).with_suffix("").parts)


def bound_names(tree):
    for node in ast.walk(tree):
        if isinstance(node, ast.Name) and not isinstance(node.ctx, ast.Load):
            yield node.id
        elif isinstance(node, ast.arg):
            yield node.arg
        elif isinstance(node, (ast.FunctionDef, ast.ClassDef)):
            yield node.name


def top_names(tree):
    for node in tree.body:
        if isinstance(node, (ast.FunctionDef, ast.ClassDef)):
            yield node.name
        elif isinstance(node, ast.Assign):
            yield node.targets[0].id


class FormTest(unittest.TestCase):
    def setUp(self):
        self.trees = {path: ast.parse(path.read_text()) for path in sources()}

    def each_node(self, kind):
        for path, tree in self.trees.items():
            for node in ast.walk(tree):
                if isinstance(node, kind):
                    yield node, f"{path.name}:{getattr(node, 'lineno', 0)}"

    def test_files(self):
        found = [path for path in PACKAGE.rglob("*") if path.is_file() and "__pycache__" not in path.parts]
        self.assertEqual(sorted(found), sources())
        for path in found:
            self.assertRegex(path.name, r"\A([a-z][a-z0-9_]*|__init__|__main__)\.py\Z")
            self.assertNotIn(path.stem, dir(builtins))

    def test_size_and_signs(self):
        for path in sources():
            text = path.read_bytes().decode("ascii")
            self.assertRegex(text, r"\A[ -~\n]*\Z", path.name)
            rows = text.split("\n")
            self.assertLessEqual(len(rows), 400, path.name)
            self.assertLessEqual(max(len(row) for row in rows), 120, path.name)
        for node, place in self.each_node(ast.FunctionDef):
            self.assertLessEqual(node.end_lineno - node.lineno + 1, 40, place)

    def test_words(self):
        for path in sources():
            text = path.read_text()
            for word in re.findall(r"\w+", text):
                self.assertNotIn(word, WORDS, path.name)
            for part in WITHIN_WORDS:
                self.assertNotIn(part, text, path.name)

    def test_only_known_forms(self):
        for node, place in self.each_node(ast.AST):
            self.assertIsInstance(node, STATEMENTS + EXPRESSIONS + PARTS, place)
            self.assertNotIsInstance(node, (ast.Div, ast.MatMult), place)

    def test_statements(self):
        for node, place in self.each_node(ast.Assign):
            self.assertEqual(len(node.targets), 1, place)
        for node, place in self.each_node((ast.While, ast.For)):
            self.assertEqual(node.orelse, [], place)
        for node, place in self.each_node((ast.FunctionDef, ast.ClassDef)):
            self.assertEqual(node.decorator_list, [], place)
        for node, place in self.each_node(ast.ListComp):
            self.assertEqual(len(node.generators), 1, place)
            self.assertLessEqual(len(node.generators[0].ifs), 1, place)
        for node, place in self.each_node(ast.arguments):
            self.assertEqual((node.vararg, node.kwarg, node.kwonlyargs, node.posonlyargs), (None, None, [], []), place)

    def test_values(self):
        for node, place in self.each_node(ast.Constant):
            self.assertIsInstance(node.value, (int, str, bool, type(None)), place)
            self.assertFalse(isinstance(node.value, str) and "%" in node.value, place)
        for node, place in self.each_node(ast.BinOp):
            if isinstance(node.op, ast.Pow):
                self.assertIsInstance(node.right, ast.Constant, place)
        for node, place in self.each_node(ast.Compare):
            for op, side in zip(node.ops, node.comparators):
                if isinstance(op, (ast.Is, ast.IsNot)):
                    self.assertIsInstance(side, ast.Constant, place)

    def test_names(self):
        for path, tree in self.trees.items():
            imported = [alias.name for node in tree.body if isinstance(node, ast.ImportFrom) for alias in node.names]
            for name in bound_names(tree):
                if name != "__init__":
                    self.assertRegex(name, r"\A[A-Za-z][A-Za-z0-9_]*\Z", path.name)
                self.assertNotIn(name, dir(builtins) + imported + UNUSED, path.name)
            tops = list(top_names(tree)) + imported
            self.assertEqual(len(tops), len(set(tops)), path.name)
        for node, place in self.each_node(ast.Name):
            self.assertFalse(node.id in dir(builtins) and node.id not in OWN_NAMES, place)

    def test_methods(self):
        methods = []
        for node, place in self.each_node(ast.ClassDef):
            methods += [item.name for item in node.body]
        for node, place in self.each_node(ast.Attribute):
            self.assertNotIn(node.attr, UNUSED, place)
        for node, place in self.each_node(ast.Call):
            if isinstance(node.func, ast.Attribute):
                self.assertIn(node.func.attr, OWN_METHODS + methods, place)

    def test_walked_at_once(self):
        allowed = []
        for node, place in self.each_node((ast.For, ast.comprehension)):
            allowed.append(node.iter)
        for node, place in self.each_node(ast.Call):
            if isinstance(node.func, ast.Name) and node.func.id in WALKERS:
                allowed += node.args
        for node, place in self.each_node(ast.Call):
            if isinstance(node.func, ast.Name) and node.func.id in WALKED:
                self.assertIn(node, allowed, place)

    def test_imports(self):
        drawn = {}
        homes = {module_name(path): list(top_names(tree)) for path, tree in self.trees.items()}
        for path, tree in self.trees.items():
            rows = [node for node in ast.walk(tree) if isinstance(node, ast.ImportFrom)]
            for node in rows:
                self.assertIn(node, tree.body, path.name)
                for alias in node.names:
                    self.assertIsNone(alias.asname, path.name)
                    self.assertIn(alias.name, homes.get(node.module, []), path.name)
            drawn[module_name(path)] = {node.module for node in rows}
        # Files that draw from nothing that is left are taken away; a ring would stay.
        while drawn:
            free = [name for name, others in drawn.items() if not others & set(drawn)]
            self.assertNotEqual(free, [], "files draw from one another")
            for name in free:
                drawn.pop(name)

    def test_top_of_a_module(self):
        for path, tree in self.trees.items():
            self.assertIsNotNone(ast.get_docstring(tree), path.name)
            for node in tree.body[1:]:
                self.assertIsInstance(node, (ast.ImportFrom, ast.FunctionDef, ast.ClassDef, ast.Assign), path.name)
                if isinstance(node, ast.ClassDef):
                    for item in node.body:
                        self.assertIsInstance(item, ast.FunctionDef, path.name)


if __name__ == "__main__":
    unittest.main()
